"""Where the next step of a program is done, and what comes of it, told of programs without checks."""

from nearanswer.bindings import put_in
from nearanswer.errors import TooMany
from nearanswer.treeforms import MOST_DEPTH, MOST_NUMBER, MOST_SIZE, measure, parts_in, put_around

STEP_WORDS = {
    "call": "call", "let": "let", "rec": "rec", "match": "match", "op": "op", "answer": "plain", "do": "deed",
}


def holds_value(tree):
    """Whether a program is a value."""
    waiting = [tree]
    while waiting:
        one = waiting.pop()
        if one[0] == "shape":
            waiting.extend(one[2])
        elif one[0] != "num" and one[0] != "fun":
            return False
    return True


def shown(value):
    """The shown form of a value."""
    if value[0] == "num":
        return value[1]
    if value[0] == "fun":
        return "fun"
    parts = []
    for part in value[2]:
        parts.append(shown(part))
    return (value[1], tuple(parts))


def shown_end(end):
    """The shown form of an end."""
    if end[0] == "value":
        return ("value", shown(end[1]))
    if end[0] == "unanswered":
        return ("unanswered", end[1], shown(end[2]))
    return end


def worked_parts(tree):
    """The first parts of a tree that are worked out before anything is done with it."""
    word = tree[0]
    if word == "fun" or word == "rec":
        return []
    if word in ("let", "match", "do", "answer"):
        return parts_in(tree)[:1]
    return parts_in(tree)


def working_index(tree):
    """The index of the part in which the next place lies, None if it is the tree itself."""
    for index, part in enumerate(worked_parts(tree)):
        if not holds_value(part):
            return index
    return None


def next_spot(program):
    """Of a program that is no value, the trail to its next place, and the tree there."""
    trail = []
    spot = program
    index = working_index(spot)
    while index is not None:
        trail.append((spot, index))
        spot = parts_in(spot)[index]
        index = working_index(spot)
    return (trail, spot)


def fitted(pattern, value):
    """The table of what a pattern binds in a value, None if it does not fit."""
    table = {}
    waiting = [(pattern, value)]
    while waiting:
        one, part = waiting.pop()
        if one[0] == "bind":
            table[one[1]] = part
        elif one[0] == "numis" and part != ("num", one[1]):
            return None
        elif one[0] == "shapeis":
            if part[0] != "shape" or part[1] != one[1] or len(part[2]) != len(one[2]):
                return None
            waiting.extend(list(zip(one[2], part[2])))
    return table


def first_fitting(rows, value):
    """The body of the first row that fits, with what its pattern binds put in; None if none fits."""
    for pattern, body in rows:
        table = fitted(pattern, value)
        if table is not None:
            return put_in(body, table)
    return None


def worked_out(sign, one, two):
    """What an op of two integers leads to."""
    if sign == "<":
        return truth(one < two)
    if sign == "=":
        return truth(one == two)
    if sign == "+":
        return ("num", one + two)
    if sign == "-":
        return ("num", one - two)
    return ("num", one * two)


def truth(holds):
    if holds:
        return ("shape", "Yes", ())
    return ("shape", "No", ())


def stuck_at(spot):
    """The reason for which a program is stuck at its next place, None if it is not."""
    word = spot[0]
    if word == "call" and spot[1][0] != "fun":
        return "call"
    if word == "match" and all([fitted(row[0], spot[1]) is None for row in spot[2]]):
        return "match"
    if word == "op":
        if spot[2][0] != "num" or spot[3][0] != "num":
            return "number"
        result = worked_out(spot[1], spot[2][1], spot[3][1])
        if result[0] == "num" and abs(result[1]) > MOST_NUMBER:
            return "great"
    return None


def changed_at(spot):
    """What becomes of the tree at the next place, if it is not stuck there, and no do."""
    word = spot[0]
    if word == "call":
        return put_in(spot[1][2], {spot[1][1]: spot[2]})
    if word == "let":
        return put_in(spot[3], {spot[1]: spot[2]})
    if word == "rec":
        _, name, entry, made, body = spot
        return put_in(body, {name: ("fun", entry, ("rec", name, entry, made, made))})
    if word == "match":
        return first_fitting(spot[2], spot[1])
    if word == "op":
        return worked_out(spot[1], spot[2][1], spot[3][1])
    return put_in(spot[2][1], {spot[2][0]: spot[1]})


def row_in(rows, deed):
    """The row of an answerer's rows for a deed, None if there is none."""
    for row in rows:
        if row[0] == deed:
            return row
    return None


def row_for(answerer, deed):
    """The row of an answerer for a deed, None if it has none."""
    return row_in(answerer[3], deed)


def nearest_answerer(trail, deed):
    """The place in a trail of the nearest answerer for a deed, None if there is none."""
    for at in range(len(trail) - 1, -1, -1):
        if trail[at][0][0] == "answer" and row_for(trail[at][0], deed) is not None:
            return at
    return None


def rest_of(trail):
    """The rest of a deed: a function with what the trail leads through around its entry."""
    return ("fun", "it", put_around(trail, ("name", "it")))


def answering(trail, spot, at):
    """The body of the row that answers a deed at a place of the trail, with the value and the rest put in."""
    _, entry, rest, body = row_for(trail[at][0], spot[1])
    return put_in(body, {entry: spot[2], rest: rest_of(trail[at:])})


def answered(trail, spot, at):
    """The program behind a deed that is answered at a place of the trail."""
    return put_around(trail[:at], answering(trail, spot, at))


def end_of(program):
    """The end at which a program is, None if it does a step."""
    if holds_value(program):
        return ("value", program)
    trail, spot = next_spot(program)
    return stop_at(trail, spot)


def stop_at(trail, spot):
    """The end of a program that is no value, by its next place; None if it does a step there."""
    if spot[0] == "do":
        if nearest_answerer(trail, spot[1]) is None:
            return ("unanswered", spot[1], spot[2])
        return None
    reason = stuck_at(spot)
    if reason is None:
        return None
    return ("stuck", reason)


def stepped(program):
    """The word of the step of a program that is at no end, and the program behind it."""
    trail, spot = next_spot(program)
    if spot[0] == "do":
        behind = answered(trail, spot, nearest_answerer(trail, spot[1]))
    else:
        behind = put_around(trail, changed_at(spot))
    check_behind(behind)
    return (STEP_WORDS[spot[0]], behind)


def check_behind(program):
    size, depth = measure(program)
    if size > MOST_SIZE:
        raise TooMany(MOST_SIZE)
    if depth > MOST_DEPTH:
        raise TooMany(MOST_DEPTH)
