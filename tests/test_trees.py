"""[4], [5], [6], [53]: names, tags, trees, patterns, sizes, depths, parts and paths."""

import copy
import unittest

from nearanswer.errors import InvalidPath, InvalidTree
from nearanswer.trees import all_paths, is_pattern, is_tree, part_at, parts_of, put_at, tree_depth, tree_size
from making import (ANY, BARRED, NO_NAMES, NO_TREES, NUM, X, checked, nested, size_of, sized, trees)

FORMS = [
    NUM, X, ("fun", "x", X), ("call", X, NUM), ("let", "x", NUM, X), ("rec", "f", "x", X, NUM), ("shape", "Two", (NUM, X)),
    ("shape", "No", ()), ("match", X, ((ANY, NUM), (("bind", "x"), X))), ("op", "<", NUM, X), ("do", "ask", X),
    ("answer", X, ("x", X), (("ask", "x", "k", X), ("tell", "x", "k", NUM))), ("answer", X, ("x", X), ()),
]
NO_PATTERNS = [
    None, (), [], "any", ("any", 1), ["any"], ("bind",), ("bind", "X"), ("bind", "x", "y"), ("numis",),
    ("numis", True), ("shapeis", "Two"), ("shapeis", "two", ()), ("shapeis", "Two", []), NUM, X,
    ("shapeis", "Two", (NUM,)), ("shapeis", "Two", (("bind", "x"), ("bind", "x"))),
    ("shapeis", "Two", (("bind", "x"), ("shapeis", "Two", (("bind", "x"),)))), ("shape", "Two", ()), (["any"],),
]


class TreesTest(unittest.TestCase):

    def test_forms(self):
        for tree in FORMS:
            self.assertIs(is_tree(tree), True, tree)

    def test_no_trees(self):
        for value in NO_TREES:
            self.assertIs(is_tree(value), False, value)
            self.assertIs(is_tree(("do", "ask", value)), False, value)
            self.assertIs(is_tree(("match", NUM, ((ANY, NUM), (ANY, value)))), False, value)

    def test_names_and_tags(self):
        for name in ("a", "z", "az", "za", "abcdefgh", "truth", "done", "funs", "le"):
            self.assertIs(is_tree(("name", name)), True, name)
        for name in NO_NAMES:
            self.assertIs(is_tree(("name", name)), False, name)
            self.assertIs(is_tree(("do", name, NUM)), False, name)
            self.assertIs(is_tree(("answer", NUM, (name, NUM), ())), False, name)
            self.assertIs(is_tree(("answer", NUM, ("x", NUM), ((name, "x", "k", NUM),))), False, name)
            self.assertIs(is_tree(("answer", NUM, ("x", NUM), (("ask", "x", name, NUM),))), False, name)
        for name in BARRED:
            self.assertIs(is_tree(("fun", name, NUM)), False, name)
            self.assertIs(is_pattern(("bind", name)), False, name)
        for tag in ("A", "Z", "Za", "Az", "Abcdefgh", "Fun", "Plain"):
            self.assertIs(is_tree(("shape", tag, ())), True, tag)
        for tag in ("", "a", "AB", "A1", "A ", "Abcdefghi", None, 1, ("A",), "A\n"):
            self.assertIs(is_tree(("shape", tag, ())), False, tag)

    def test_numbers(self):
        for number in (0, 10 ** 12, -10 ** 12):
            self.assertIs(is_tree(("num", number)), True)
            self.assertIs(is_pattern(("numis", number)), True)
        for number in (10 ** 12 + 1, -10 ** 12 - 1, True, False, "1", None, 10 ** 119):
            self.assertIs(is_tree(("num", number)), False, number)
            self.assertIs(is_pattern(("numis", number)), False, number)

    def test_numbers_of_things(self):
        for many in range(7):
            row = ("shape", "Row", (NUM,) * many)
            self.assertIs(is_tree(row), many <= 4)
            self.assertIs(is_pattern(("shapeis", "Row", (ANY,) * many)), many <= 4)
        for many in range(8):
            self.assertIs(is_tree(("match", X, ((ANY, NUM),) * many)), 1 <= many <= 6)
            rows = tuple((deed, "x", "k", NUM) for deed in "abcdefgh"[:many])
            self.assertIs(is_tree(("answer", X, ("x", X), rows)), many <= 6)

    def test_patterns(self):
        good = [ANY, ("bind", "x"), ("numis", -3), ("shapeis", "Two", ()), ("shapeis", "Two", (("bind", "x"), ("bind", "y"))),
                ("shapeis", "Two", (ANY, ("shapeis", "Two", (ANY, ("numis", 1)))))]
        for pattern in good:
            self.assertIs(is_pattern(pattern), True, pattern)
            self.assertIs(is_tree(("match", NUM, ((pattern, NUM),))), True, pattern)
        for pattern in NO_PATTERNS:
            self.assertIs(is_pattern(pattern), False, pattern)
            self.assertIs(is_tree(("match", NUM, ((pattern, NUM),))), False, pattern)
        # The same name may stand in the patterns of two rows.
        self.assertIs(is_tree(("match", NUM, ((("bind", "x"), X), (("bind", "x"), X)))), True)

    def test_size_bound(self):
        for size in (1, 2, 5, 6, 17, 400, 2999, 3000):
            self.assertEqual(size_of(sized(size)), size)
            self.assertIs(is_tree(sized(size)), True)
            self.assertEqual(tree_size(sized(size)), size)
        self.assertIs(is_tree(sized(3001)), False)
        checked(self, InvalidTree, tree_size, sized(3001))

    def test_depth_bound(self):
        self.assertEqual(tree_depth(nested(119)), 120)
        self.assertIs(is_tree(nested(119)), True)
        self.assertIs(is_tree(nested(120)), False)
        checked(self, InvalidTree, tree_depth, nested(120))

    def test_patterns_count(self):
        self.assertEqual(tree_size(("match", NUM, ((("shapeis", "Two", (ANY, ("bind", "x"))), X),))), 6)
        pattern = ANY
        for _ in range(119):
            pattern = ("shapeis", "One", (pattern,))
        self.assertIs(is_pattern(pattern), True)
        self.assertIs(is_pattern(("shapeis", "One", (pattern,))), False)
        self.assertIs(is_tree(("match", NUM, ((pattern, NUM),))), False)
        self.assertEqual(tree_depth(("match", NUM, ((pattern[2][0], NUM),))), 120)

    def test_pattern_size_bound(self):
        def pattern_of(size):
            tree = sized(size)
            return turned(tree)

        def turned(tree):
            return ("numis", 1) if tree == NUM else ("shapeis", "Row", tuple(turned(part) for part in tree[2]))
        self.assertIs(is_pattern(pattern_of(3000)), True)
        self.assertIs(is_pattern(pattern_of(3001)), False)
        self.assertIs(is_tree(("match", NUM, ((pattern_of(2997), NUM),))), True)
        self.assertEqual(tree_size(("match", NUM, ((pattern_of(2997), NUM),))), 3000)
        self.assertIs(is_tree(("match", NUM, ((pattern_of(2998), NUM),))), False)

    def test_shared_parts_are_counted_as_often_as_they_stand(self):
        tree = NUM
        for _ in range(100):
            tree = ("call", tree, tree)
        self.assertIs(is_tree(tree), False)
        pattern = ANY
        for _ in range(100):
            pattern = ("shapeis", "Two", (pattern, pattern))
        self.assertIs(is_pattern(pattern), False)

    def test_deep_values_are_told_no_trees(self):
        value = ()
        for _ in range(299):
            value = (value,)
        self.assertIs(is_tree(value), False)
        self.assertIs(is_pattern(value), False)
        value = NUM
        for _ in range(299):
            value = ("do", "ask", value)
        self.assertIs(is_tree(value), False)

    def test_size_and_depth(self):
        self.assertEqual([tree_size(tree) for tree in FORMS], [1, 1, 2, 3, 3, 3, 3, 1, 6, 3, 2, 5, 3])
        self.assertEqual([tree_depth(tree) for tree in FORMS], [1, 1, 2, 2, 2, 2, 2, 1, 2, 2, 2, 2, 2])

    def test_parts(self):
        parts = [[], [], [X], [X, NUM], [NUM, X], [X, NUM], [NUM, X], [], [X, NUM, X], [NUM, X], [X], [X, X, X, NUM], [X, X]]
        for tree, told in zip(FORMS, parts):
            self.assertEqual(parts_of(tree), told)
            self.assertIs(type(parts_of(tree)), list)

    def test_paths(self):
        for tree in trees(1, 60):
            paths = all_paths(tree)
            self.assertEqual(paths, sorted(set(paths)))
            for path in paths:
                part = part_at(tree, path)
                self.assertEqual(put_at(tree, path, part), tree)
                self.assertEqual([path + (at,) in paths for at in range(len(parts_of(part)) + 1)],
                                 [True] * len(parts_of(part)) + [False])
                there = put_at(tree, path, ("name", "new"))
                self.assertEqual(part_at(there, path), ("name", "new"))
                others = [one for one in paths if one[:len(path)] != path and path[:len(one)] != one]
                self.assertTrue(all(part_at(there, one) == part_at(tree, one) for one in others))
        self.assertEqual(all_paths(FORMS[8]), [(), (0,), (1,), (2,)])

    def test_put_at_raises_at_last(self):
        self.assertEqual(tree_depth(put_at(nested(60), (0,) * 60, nested(59))), 120)
        checked(self, InvalidTree, put_at, nested(60), (0,) * 60, nested(60))
        self.assertEqual(tree_size(put_at(("call", NUM, NUM), (1,), sized(2998))), 3000)
        checked(self, InvalidTree, put_at, ("call", NUM, NUM), (1,), sized(2999))

    def test_wrong_paths(self):
        tree = ("call", NUM, ("fun", "x", X))
        for path in (None, 0, [], [0], (2,), (-1,), (True,), (False,), ("0",), (1, 1), (0, 0), ((0,),), (None,), (1, 0, 0)):
            checked(self, InvalidPath, part_at, tree, path)
            checked(self, InvalidPath, put_at, tree, path, NUM)
            checked(self, InvalidPath, put_at, tree, path, None)

    def test_wrong_trees(self):
        for value in NO_TREES:
            for action in (tree_size, tree_depth, parts_of, all_paths):
                checked(self, InvalidTree, action, value)
            checked(self, InvalidTree, part_at, value, None)
            checked(self, InvalidTree, put_at, value, None, None)
            checked(self, InvalidTree, put_at, X, (), value)

    def test_nothing_is_modified_and_lists_are_new(self):
        for tree in FORMS:
            before = copy.deepcopy(tree)
            parts_of(tree).append(1)
            all_paths(tree).append(1)
            self.assertEqual(tree, before)
            self.assertNotIn(1, parts_of(tree))
            self.assertNotIn(1, all_paths(tree))
