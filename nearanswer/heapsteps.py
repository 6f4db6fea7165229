"""Steps of runs in heaps, told without changing a heap.

A change is a quadruple (word, doing, top, cells) of the word of a step, of what is done and the top behind it, and of
the cells that it makes, in order. In doing, top and cells, ("new", index) stands for the address of one of these.
"""

from nearanswer.treeforms import parts_in, pattern_names
from nearanswer.work import row_in, stuck_at, worked_out

LOOK = "look"


def new(index):
    return ("new", index)


def settled(word, places):
    """A word, with the address of a new cell in its place."""
    if type(word) is tuple and word[0] == "new":
        return places[word[1]]
    return word


def settled_words(words, places):
    return tuple([settled(word, places) for word in words])


def value_named(name, names, heap):
    """The value of the nearest bind cell of a name."""
    address = names
    while heap[address][0][1] != name:
        address = heap[address][1][1]
    return heap[address][1][0]


def next_of(frame):
    """The next frame of a frame."""
    label, words = frame
    if label[0] == "do":
        return words[0]
    return words[1]


def with_next(frame, address):
    """The frame with another next frame."""
    label, words = frame
    if label[0] == "do":
        return (label, (address,))
    return (label, (words[0], address) + words[2:])


def frames_from(top, heap):
    """The addresses of the frames from one on, each ahead of its next one."""
    addresses = []
    address = top
    while address is not None:
        addresses.append(address)
        address = next_of(heap[address])
    return addresses


def copies_of(addresses, behind, heap):
    """Copies of frames, the last one first, with a next frame for this one."""
    copies = []
    for address in addresses[::-1]:
        copies.append(with_next(heap[address], behind))
        behind = new(len(copies) - 1)
    return copies


def label_of(value, heap):
    """The first item of the label of a value, "num" for a number."""
    if type(value) is tuple:
        return "num"
    return heap[value][0][0]


def bound_in_heap(pattern, value, heap):
    """The values that a pattern binds in a value, in the order of its text; None if it does not fit."""
    found = []
    waiting = [(pattern, value)]
    while waiting:
        one, part = waiting.pop()
        if one[0] == "bind":
            found.append(part)
        elif one[0] == "numis" and part != ("num", one[1]):
            return None
        elif one[0] == "shapeis":
            if label_of(part, heap) != "shape":
                return None
            label, parts = heap[part]
            if label[1] != one[1] or len(parts) != len(one[2]):
                return None
            waiting.extend(list(zip(one[2], parts))[::-1])
    return found


def fitting_row(rows, value, heap):
    """The triple of the names and the values that the first row that fits binds, and of its body; None without one."""
    for pattern, body in rows:
        values = bound_in_heap(pattern, value, heap)
        if values is not None:
            return (pattern_names(pattern), values, body)
    return None


def frames_answering(deed, top, heap):
    """The addresses of the frames from a top on up to the nearest answerer of a deed, None if there is none."""
    addresses = frames_from(top, heap)
    for at, address in enumerate(addresses):
        label = heap[address][0]
        if label[0] == "answer" and row_in(label[2], deed) is not None:
            return addresses[:at + 1]
    return None


def ending_of(doing, top, heap):
    """The end of a standing, with the value in it as it is; None if a step is done."""
    if doing[0] == "go":
        return None
    value = doing[1]
    if top is None:
        return ("value", value)
    label, words = heap[top]
    if label[0] == "do" and frames_answering(label[1], words[0], heap) is None:
        return ("unanswered", label[1], value)
    reason = stuck_reason(label, words, value, heap)
    if reason is None:
        return None
    return ("stuck", reason)


def stuck_reason(label, words, value, heap):
    """The reason for which a run is stuck if a value is given to a frame, None if it is not."""
    if label[0] == "right" and label_of(words[0], heap) not in ("fun", "again", "rest"):
        return "call"
    if label[0] == "match" and fitting_row(label[1], value, heap) is None:
        return "match"
    if label[0] == "second":
        if type(words[0]) is int or type(value) is int:
            return "number"
        return stuck_at(("op", label[1], words[0], value))
    return None


def change_of(doing, top, heap):
    """The change of the next step of a standing that is at no end."""
    if doing[0] == "go":
        return going(doing[1], doing[2], top, heap)
    return giving(doing[1], top, heap)


def going(tree, names, top, heap):
    """The change if a tree is to be worked out."""
    word = tree[0]
    if word == "num":
        return (LOOK, ("give", tree), top, [])
    if word == "name":
        return (LOOK, ("give", value_named(tree[1], names, heap)), top, [])
    if word == "fun":
        return (LOOK, ("give", new(0)), top, [(tree, (names,))])
    if word == "shape" and len(tree[2]) == 0:
        return (LOOK, ("give", new(0)), top, [((word, tree[1]), ())])
    if word == "rec":
        _, name, entry, made, body = tree
        cells = [(("bind", name), (new(1), names)), (("again", name, entry, made), (new(0),))]
        return (word, ("go", body, new(0)), top, cells)
    return (LOOK, ("go", parts_in(tree)[0], names), new(0), [frame_for(tree, names, top)])


def frame_for(tree, names, top):
    """The frame that waits for the one, or for the first part, of a tree."""
    word = tree[0]
    if word == "do":
        return ((word, tree[1]), (top,))
    if word == "call":
        return (("left", tree[2]), (names, top))
    if word == "op":
        return (("first", tree[1], tree[3]), (names, top))
    if word == "shape":
        return (("parts", tree[1], tree[2][1:]), (names, top))
    if word == "let":
        return ((word, tree[1], tree[3]), (names, top))
    # Of a match and of an answerer, all behind the one.
    return ((word,) + tree[2:], (names, top))


def giving(value, top, heap):
    """The change if a value is given to the top."""
    label, words = heap[top]
    word = label[0]
    if word == "left":
        return (LOOK, ("go", label[1], words[0]), new(0), [(("right",), (value, words[1]))])
    if word == "first":
        return (LOOK, ("go", label[2], words[0]), new(0), [(("second", label[1]), (value, words[1]))])
    if word == "parts":
        return giving_part(value, label, words)
    if word == "right":
        return calling(heap[words[0]], value, words[1], heap)
    if word == "second":
        return giving_number(value, label, words)
    if word == "do":
        return answering(label[1], value, words[0], heap)
    if word == "match":
        names, values, body = fitting_row(label[1], value, heap)
        return binding(word, names, values, words, body)
    if word == "answer":
        name, body = label[1]
        return binding("plain", [name], [value], words, body)
    return binding(word, [label[1]], [value], words, label[2])


def giving_part(value, label, words):
    """The change if a value is given to a frame that waits for parts."""
    _, tag, trees = label
    values = words[2:] + (value,)
    if len(trees) == 0:
        return (LOOK, ("give", new(0)), words[1], [(("shape", tag), values)])
    frame = (("parts", tag, trees[1:]), words[:2] + values)
    return (LOOK, ("go", trees[0], words[0]), new(0), [frame])


def giving_number(value, label, words):
    """The change if the second number is given to an op."""
    result = worked_out(label[1], words[0][1], value[1])
    if result[0] == "num":
        return ("op", ("give", result), words[1], [])
    return ("op", ("give", new(0)), words[1], [(result[:2], ())])


def binding(word, names, values, words, body):
    """The change if a body goes on with values bound to names."""
    cells = []
    behind = words[0]
    for name, value in zip(names, values):
        cells.append((("bind", name), (value, behind)))
        behind = new(len(cells) - 1)
    return (word, ("go", body, behind), words[1], cells)


def calling(one, value, behind, heap):
    """The change if the cell of a function or of a rest is called."""
    label, words = one
    if label[0] == "fun":
        _, name, body = label
        return binding("call", [name], [value], (words[0], behind), body)
    if label[0] == "again":
        _, _, entry, made = label
        return binding("again", [entry], [value], (words[0], behind), made)
    copies = copies_of(frames_from(words[0], heap), behind, heap)
    return ("call", ("give", value), new(len(copies) - 1), copies)


def answering(deed, value, behind, heap):
    """The change if a deed is answered, behind being the next frame of the do."""
    addresses = frames_answering(deed, behind, heap)
    label, words = heap[addresses[-1]]
    _, entry, rest, body = row_in(label[2], deed)
    cells = copies_of(addresses, None, heap)
    many = len(cells)
    cells.append((("rest",), (new(many - 1),)))
    cells.append((("bind", entry), (value, words[0])))
    cells.append((("bind", rest), (new(many), new(many + 1))))
    return ("deed", ("go", body, new(many + 2)), words[1], cells)
