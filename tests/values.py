"""All values of a few heads up to a depth, and plain ways to follow plans: what rows fit is told by looking at each."""

import itertools

FUN = ("fun", "x", ("name", "x"))


def values(items, numbers, depth):
    """All values of a depth of at most so many, with these stock items and numbers."""
    told = []
    for item in items:
        if item == ("fun",):
            told.append(FUN)
        elif item == ("num",):
            told.extend(("num", number) for number in numbers)
        elif item[2] == 0:
            told.append(("shape", item[1], ()))
        elif depth > 1:
            inner = values(items, numbers, depth - 1)
            told.extend(("shape", item[1], parts) for parts in itertools.product(inner, repeat=item[2]))
    return told


def fits(pattern, value):
    if pattern[0] in ("any", "bind"):
        return True
    if pattern[0] == "numis":
        return value == ("num", pattern[1])
    return (value[0] == "shape" and value[1] == pattern[1] and len(value[2]) == len(pattern[2])
            and all(fits(part, inner) for part, inner in zip(pattern[2], value[2])))


def first(rows, value):
    for index, row in enumerate(rows):
        if fits(row, value):
            return index
    return None


def part(value, place):
    for index in place:
        if value[0] != "shape" or index >= len(value[2]):
            return None
        value = value[2][index]
    return value


def head(value):
    if value[0] == "num":
        return value
    return ("shape", value[1], len(value[2])) if value[0] == "shape" else None


def follow(plan, value):
    """The end of a plan to which it leads a value."""
    while plan[0] == "test":
        plan = dict(plan[2]).get(head(part(value, plan[1])), plan[3])
    return plan[1] if plan[0] == "row" else None


def patterns(chance, depth, heads, numbers):
    """A pattern without names, by chance."""
    roll = chance.randrange(5)
    if roll == 0 or (depth == 1 and roll < 2):
        return ("any",)
    if roll == 1 and numbers:
        return ("numis", chance.choice(numbers))
    fit = [one for one in heads if depth > 1 or one[2] == 0]
    if not fit:
        return ("any",)
    _, tag, many = chance.choice(fit)
    return ("shapeis", tag, tuple(patterns(chance, depth - 1, heads, numbers) for _ in range(many)))
