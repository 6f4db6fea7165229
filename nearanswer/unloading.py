"""What standings of runs in heaps stand for: unloaded trees, and the shown forms of values, told without checks.

Values are shared in a heap, so that what they stand for is counted while it comes, and not built if it is too great.
"""

from nearanswer.bindings import scopes, with_added
from nearanswer.errors import TooMany
from nearanswer.heapsteps import frames_from, value_named
from nearanswer.treeforms import MOST_DEPTH, MOST_SIZE, pattern_measure, patterns_in, with_parts

# Stands in the place of a part that is told by itself.
HOLE = ("num", 0)


class Unloader:
    """Tells what words of a heap stand for, and counts how many trees and patterns, or shown parts, come."""

    def __init__(self, heap):
        self.heap = heap
        self.many = 0

    def note(self, many, deep):
        """Notes so many parts, the deepest of which stands so deep."""
        self.many = self.many + many
        if self.many > MOST_SIZE or deep > MOST_DEPTH:
            raise TooMany(MOST_SIZE)

    def note_tree(self, tree, deep):
        """Notes a tree with its patterns, but without its parts."""
        self.note(1, deep)
        for pattern in patterns_in(tree):
            size, depth = pattern_measure(pattern)
            self.note(size, deep + depth)

    def shown_word(self, word, deep):
        """The shown form of a value."""
        self.note(1, deep)
        if type(word) is tuple:
            return word[1]
        label, words = self.heap[word]
        if label[0] != "shape":
            return "fun"
        parts = []
        for part in words:
            parts.append(self.shown_word(part, deep + 1))
        return (label[1], tuple(parts))

    def tree_with(self, tree, bound, names, deep):
        """A tree with the values of its names put in, but for those that are bound around it in the whole tree."""
        if tree[0] == "name" and tree[1] not in bound:
            return self.tree_of_value(value_named(tree[1], names, self.heap), deep)
        self.note_tree(tree, deep)
        parts = []
        for _, fresh, part in scopes(tree):
            parts.append(self.tree_with(part, with_added(bound, fresh), names, deep + 1))
        return with_parts(tree, parts)

    def tree_of_value(self, word, deep):
        """The tree of a value."""
        if type(word) is tuple:
            self.note(1, deep)
            return word
        label, words = self.heap[word]
        if label[0] == "fun":
            return self.tree_with(label, {}, words[0], deep)
        if label[0] == "again":
            _, name, entry, made = label
            return self.tree_with(("fun", entry, ("rec", name, entry, made, made)), {}, words[0], deep)
        self.note(1, deep)
        if label[0] == "rest":
            return ("fun", "it", self.rest_tree(words[0], deep + 1))
        parts = []
        for part in words:
            parts.append(self.tree_of_value(part, deep + 1))
        return (label[0], label[1], tuple(parts))

    def rest_tree(self, top, deep):
        """The tree of the frames of a piece around the name of what is given to the rest."""
        addresses = frames_from(top, self.heap)
        self.note(1, deep + len(addresses))
        return self.tree_in_frames(("name", "it"), addresses, deep + len(addresses))

    def standing_tree(self, doing, top):
        """The unloaded tree of what is done, and of the frames from the top on."""
        addresses = frames_from(top, self.heap)
        deep = 1 + len(addresses)
        if doing[0] == "go":
            tree = self.tree_with(doing[1], {}, doing[2], deep)
        else:
            tree = self.tree_of_value(doing[1], deep)
        return self.tree_in_frames(tree, addresses, deep)

    def tree_in_frames(self, tree, addresses, deep):
        """The tree that stands so deep, with what the frames wait in around it."""
        whole = tree
        for at, address in enumerate(addresses):
            label, words = self.heap[address]
            whole = self.tree_in_frame(label, words, whole, deep - 1 - at)
        return whole

    def tree_in_frame(self, label, words, inner, deep):
        """What a frame waits in, with a tree in the place of what it waits for."""
        word = label[0]
        if word == "right":
            self.note(1, deep)
            return ("call", self.tree_of_value(words[0], deep + 1), inner)
        if word == "second":
            self.note(1, deep)
            return ("op", label[1], self.tree_of_value(words[0], deep + 1), inner)
        if word == "parts":
            return self.shape_in_frame(label, words, inner, deep)
        tree = tree_of_frame(label)
        self.note_tree(tree, deep)
        parts = [inner]
        for _, fresh, part in scopes(tree)[1:]:
            parts.append(self.tree_with(part, with_added({}, fresh), words[0], deep + 1))
        return with_parts(tree, parts)

    def shape_in_frame(self, label, words, inner, deep):
        """The shape whose parts a frame waits for."""
        self.note(1, deep)
        parts = []
        for value in words[2:]:
            parts.append(self.tree_of_value(value, deep + 1))
        parts.append(inner)
        for tree in label[2]:
            parts.append(self.tree_with(tree, {}, words[0], deep + 1))
        return ("shape", label[1], tuple(parts))


def tree_of_frame(label):
    """The tree that a frame with trees waits in, with a hole for what it waits for."""
    word = label[0]
    if word == "left":
        return ("call", HOLE, label[1])
    if word == "first":
        return ("op", label[1], HOLE, label[2])
    if word == "let":
        return (word, label[1], HOLE, label[2])
    if word == "do":
        return (word, label[1], HOLE)
    return (word, HOLE) + label[1:]
