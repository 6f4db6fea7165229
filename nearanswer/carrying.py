"""Functions taken out of flat programs as blocks, and put back, told without raising errors."""

from nearanswer.bindings import free_in
from nearanswer.flattening import is_flat_program
from nearanswer.treeforms import MOST_DEPTH, MOST_SIZE, fits_tree, has_tree_form, is_tuple_of, parts_in, with_parts

# What stands for a tree that can't be put back; it is none.
BROKEN = ("broken",)


def carried_from(flat):
    """The carried form of a flat program with plain names."""
    main, blocks = taken_out(flat, ())
    return (blocks, main)


def taken_out(tree, blocks):
    """A tree without its functions and recs, and the tuple of the blocks so far with those of the tree behind."""
    word = tree[0]
    if word == "fun":
        return block_made("", tree[1], tree[2], blocks)
    if word == "rec":
        make, blocks = block_made(tree[1], tree[2], tree[3], blocks)
        body, blocks = taken_out(tree[4], blocks)
        return (("let", tree[1], make, body), blocks)
    parts = []
    for part in parts_in(tree):
        changed, blocks = taken_out(part, blocks)
        parts.append(changed)
    return (with_parts(tree, parts), blocks)


def block_made(own, entry, body, blocks):
    """The make of a new block, and the tuple of the blocks so far with it, and with those in its body, behind."""
    at = len(blocks)
    kept = tuple([name for name in free_in(body) if name != own and name != entry])
    # The block stands ahead of those in its body, so that its place is held until the body is there.
    changed, blocks = taken_out(body, blocks + (None,))
    block = (own, kept, entry, changed)
    return (("make", at), blocks[:at] + (block,) + blocks[at + 1:])


def carried_tree(value):
    """The tree whose carried form any value is, BROKEN if it is none."""
    if not is_tuple_of(value, 2, 2) or type(value[0]) is not tuple:
        return BROKEN
    blocks, main = value
    if not all([is_tuple_of(block, 4, 4) for block in blocks]):
        return BROKEN
    if not are_few([main] + [block[3] for block in blocks]):
        return BROKEN
    tree, _ = put_back(main, blocks, 0, 1)
    if not fits_tree(tree) or not is_flat_program(tree) or carried_from(tree) != value:
        return BROKEN
    return tree


def are_few(values):
    """Whether no more trees stand in some values than in a carried form: a let and a make stand for each rec."""
    many = 0
    waiting = list(values)
    while waiting and many <= 2 * MOST_SIZE:
        one = waiting.pop()
        many = many + 1
        if has_tree_form(one):
            waiting.extend(parts_in(one))
    return many <= 2 * MOST_SIZE


def put_back(value, blocks, at, depth):
    """A value with functions and recs in the place of makes, and the index of the next block to be made.

    What has not the form of a tree, or is too deep for one, becomes BROKEN.
    """
    if depth > MOST_DEPTH:
        return (BROKEN, at)
    if is_make(value, blocks, at):
        own, _, entry, body = blocks[at]
        made, behind = put_back(body, blocks, at + 1, depth + 1)
        if own == "":
            return (("fun", entry, made), behind)
        return (BROKEN, behind)
    if not has_tree_form(value):
        return (BROKEN, at)
    if value[0] == "let" and is_make(value[2], blocks, at) and blocks[at][0] != "":
        return rec_put_back(value, blocks, at, depth)
    parts = []
    for part in parts_in(value):
        changed, at = put_back(part, blocks, at, depth + 1)
        parts.append(changed)
    return (with_parts(value, parts), at)


def rec_put_back(value, blocks, at, depth):
    """What put_back tells of a let of the block of a rec."""
    own, _, entry, made = blocks[at]
    changed, behind = put_back(made, blocks, at + 1, depth + 1)
    body, behind = put_back(value[3], blocks, behind, depth + 1)
    if own != value[1]:
        return (BROKEN, behind)
    return (("rec", own, entry, changed, body), behind)


def is_make(value, blocks, at):
    """Whether a value makes the block with an index."""
    if not is_tuple_of(value, 2, 2) or value[0] != "make" or type(value[1]) is not int:
        return False
    return value[1] == at and at < len(blocks)
