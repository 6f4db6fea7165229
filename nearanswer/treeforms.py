"""The forms of names, tags, numbers, patterns and trees, told without raising errors."""

MOST_NUMBER = 10 ** 12
MOST_SIZE = 3000
MOST_DEPTH = 120
BARRED = ("fun", "let", "in", "rec", "match", "do", "answer", "plain")
SIGNS = ("+", "-", "*", "<", "=")

# Where the parts stand in the forms whose parts are a slice of the tuple.
PART_SLICES = {
    "num": (2, 2), "name": (2, 2), "fun": (2, 3), "call": (1, 3),
    "let": (2, 4), "rec": (3, 5), "op": (2, 4), "do": (2, 3),
}


def is_integer(value, low, high):
    return type(value) is int and low <= value <= high


def is_number(value):
    return is_integer(value, -MOST_NUMBER, MOST_NUMBER)


def is_name(value):
    if type(value) is not str or not 1 <= len(value) <= 8 or value in BARRED:
        return False
    return all(["a" <= sign <= "z" for sign in value])


def is_tag(value):
    if type(value) is not str or not 1 <= len(value) <= 8:
        return False
    return "A" <= value[0] <= "Z" and all(["a" <= sign <= "z" for sign in value[1:]])


def is_tuple_of(value, low, high):
    return type(value) is tuple and low <= len(value) <= high


def are_unlike(names):
    return len(set(names)) == len(names)


def begins_with_word(value):
    return type(value) is tuple and len(value) > 0 and type(value[0]) is str


def has_pattern_form(value):
    """Whether a value is a pattern as far as can be seen without looking into its patterns."""
    if not begins_with_word(value):
        return False
    word = value[0]
    if word == "any":
        return len(value) == 1
    if word == "bind":
        return len(value) == 2 and is_name(value[1])
    if word == "numis":
        return len(value) == 2 and is_number(value[1])
    if word == "shapeis":
        return len(value) == 3 and is_tag(value[1]) and is_tuple_of(value[2], 0, 4)
    return False


def has_tree_form(value):
    """Whether a value is a tree as far as can be seen without looking into its trees and patterns."""
    if not begins_with_word(value):
        return False
    word = value[0]
    many = len(value)
    if word == "num":
        return many == 2 and is_number(value[1])
    if word == "name":
        return many == 2 and is_name(value[1])
    if word == "fun":
        return many == 3 and is_name(value[1])
    if word == "call":
        return many == 3
    if word == "let":
        return many == 4 and is_name(value[1])
    if word == "rec":
        return many == 5 and is_name(value[1]) and is_name(value[2]) and value[1] != value[2]
    if word == "shape":
        return many == 3 and is_tag(value[1]) and is_tuple_of(value[2], 0, 4)
    if word == "match":
        return many == 3 and has_match_rows(value[2])
    if word == "op":
        return many == 4 and type(value[1]) is str and value[1] in SIGNS
    if word == "do":
        return many == 3 and is_name(value[1])
    return word == "answer" and many == 4 and has_plain_pair(value[2]) and has_answer_rows(value[3])


def has_match_rows(value):
    return is_tuple_of(value, 1, 6) and all([is_tuple_of(row, 2, 2) for row in value])


def has_plain_pair(value):
    return is_tuple_of(value, 2, 2) and is_name(value[0])


def has_answer_rows(value):
    if not is_tuple_of(value, 0, 6):
        return False
    for row in value:
        if not is_tuple_of(row, 4, 4) or not all([is_name(name) for name in row[:3]]) or row[1] == row[2]:
            return False
    return are_unlike([row[0] for row in value])


def parts_in(tree):
    """The parts of a tree, in the order of its text."""
    word = tree[0]
    if word == "shape":
        return list(tree[2])
    if word == "match":
        return [tree[1]] + [row[1] for row in tree[2]]
    if word == "answer":
        return [tree[1], tree[2][1]] + [row[3] for row in tree[3]]
    low, high = PART_SLICES[word]
    return list(tree[low:high])


def patterns_in(tree):
    """The patterns of the rows of a tree."""
    if tree[0] == "match":
        return [row[0] for row in tree[2]]
    return []


def with_parts(tree, parts):
    """The tree with other parts."""
    word = tree[0]
    if word == "shape":
        return (word, tree[1], tuple(parts))
    if word == "match":
        rows = [(row[0], body) for row, body in zip(tree[2], parts[1:])]
        return (word, parts[0], tuple(rows))
    if word == "answer":
        rows = [row[:3] + (body,) for row, body in zip(tree[3], parts[2:])]
        return (word, parts[0], (tree[2][0], parts[1]), tuple(rows))
    low, _ = PART_SLICES[word]
    return tree[:low] + tuple(parts)


def with_part(tree, index, part):
    """The tree with another part at an index."""
    parts = list(parts_in(tree))
    parts[index] = part
    return with_parts(tree, parts)


def pattern_names(pattern):
    """The names that stand in a pattern, in the order of its text."""
    names = []
    waiting = [pattern]
    while waiting:
        one = waiting.pop()
        if one[0] == "bind":
            names.append(one[1])
        elif one[0] == "shapeis":
            waiting.extend(one[2][::-1])
    return names


def pattern_measure(value):
    """The size and the depth of a pattern; the pair of None for what is none, or is too great or too deep."""
    size = 0
    depth = 0
    waiting = [(value, 1)]
    while waiting:
        one, deep = waiting.pop()
        size = size + 1
        depth = max(depth, deep)
        if size > MOST_SIZE or deep > MOST_DEPTH or not has_pattern_form(one):
            return (None, None)
        if one[0] == "shapeis":
            waiting.extend([(part, deep + 1) for part in one[2]])
    if not are_unlike(pattern_names(value)):
        return (None, None)
    return (size, depth)


def fits_pattern(value):
    return pattern_measure(value)[0] is not None


def fits_tree(value):
    """Whether any value is a tree."""
    many = 0
    waiting = [(value, 1)]
    while waiting:
        one, deep = waiting.pop()
        many = many + 1
        if many > MOST_SIZE or deep > MOST_DEPTH or not has_tree_form(one):
            return False
        for pattern in patterns_in(one):
            size, depth = pattern_measure(pattern)
            if size is None or deep + depth > MOST_DEPTH:
                return False
            many = many + size
        waiting.extend([(part, deep + 1) for part in parts_in(one)])
    return many <= MOST_SIZE


def measure(tree):
    """The size and the depth of what is a tree but for them; of a size above the bound both may be told too small."""
    size = 0
    depth = 0
    waiting = [(tree, 1)]
    while waiting and size <= MOST_SIZE:
        one, deep = waiting.pop()
        size = size + 1
        if deep > depth:
            depth = deep
        for inner in trees_and_patterns_in(one):
            waiting.append((inner, deep + 1))
    return (size, depth)


def trees_and_patterns_in(one):
    """All trees and patterns that stand directly in a tree or in a pattern."""
    word = one[0]
    if word == "shape" or word == "shapeis":
        return one[2]
    if word in PART_SLICES:
        low, high = PART_SLICES[word]
        return one[low:high]
    if word == "match":
        return [one[1]] + [row[0] for row in one[2]] + [row[1] for row in one[2]]
    if word == "answer":
        return [one[1], one[2][1]] + [row[3] for row in one[3]]
    return ()


def is_within_bounds(tree):
    size, depth = measure(tree)
    return size <= MOST_SIZE and depth <= MOST_DEPTH


def trees_in(tree):
    """The tree itself and all trees that stand in it, in the order of its text."""
    found = []
    waiting = [tree]
    while waiting:
        one = waiting.pop()
        found.append(one)
        waiting.extend(parts_in(one)[::-1])
    return found


def is_short(tree):
    size, depth = measure(tree)
    if size > 400 or depth > 40:
        return False
    scopes = [one for one in trees_in(tree) if one[0] in ("fun", "let", "rec", "match", "answer")]
    return len(scopes) <= 60


def is_index_of(value, rows):
    return type(value) is int and 0 <= value < len(rows)


def fits_path(tree, value):
    """Whether any value is a path of a tree."""
    if type(value) is not tuple:
        return False
    one = tree
    for index in value:
        parts = parts_in(one)
        if not is_index_of(index, parts):
            return False
        one = parts[index]
    return True


def part_by(tree, path):
    one = tree
    for index in path:
        one = parts_in(one)[index]
    return one


def put_by(tree, path, other):
    """The tree with another one in the place of the part to which a path leads."""
    trail = []
    one = tree
    for index in path:
        trail.append((one, index))
        one = parts_in(one)[index]
    return put_around(trail, other)


def put_around(trail, other):
    """What comes if another tree stands at the end of a trail of pairs of a tree and of the index of a part."""
    whole = other
    for tree, index in trail[::-1]:
        whole = with_part(tree, index, whole)
    return whole


def paths_in(tree):
    """All paths of a tree, ascending."""
    paths = []
    waiting = [((), tree)]
    while waiting:
        path, one = waiting.pop()
        paths.append(path)
        waiting.extend([(path + (at,), part) for at, part in enumerate(parts_in(one))][::-1])
    return paths
