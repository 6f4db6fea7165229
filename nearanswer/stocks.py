"""Stocks of values, and papers that rows cover them."""

from nearanswer.checks import check_number, check_value
from nearanswer.errors import InvalidStock
from nearanswer.heads import (MOST_NESTED, asked_heads, is_number_head, is_place, is_shape_head, left_with_head,
                              left_without_head, may_be_looked_at, with_entry)
from nearanswer.kindforms import are_ascending
from nearanswer.testtrees import check_rows
from nearanswer.treeforms import begins_with_word, is_integer, is_tuple_of

FUNCTIONS = ("fun",)
NUMBERS = ("num",)
NONE = ("none",)


def is_stock(value):
    """Whether any value is a stock."""
    if not is_tuple_of(value, 1, 6) or not all([is_stock_item(item) for item in value]):
        return False
    return are_ascending(value) and any([item[0] != "shape" or item[2] == 0 for item in value])


def is_stock_item(value):
    return value == FUNCTIONS or value == NUMBERS or is_shape_head(value)


def check_stock(value):
    if not is_stock(value):
        raise InvalidStock("this is no stock")


def check_stock_rows(stock, rows, index):
    check_stock(stock)
    check_rows(rows)
    check_number(index, 0, len(rows))


def is_of_stock(stock, value):
    """Whether a value is one of a stock."""
    check_stock(stock)
    check_value(value)
    waiting = [value]
    while waiting:
        one = waiting.pop()
        what = one[:1]
        if one[0] == "shape":
            what = ("shape", one[1], len(one[2]))
            waiting.extend(one[2])
        if what not in stock:
            return False
    return True


def is_head_of(stock, head):
    """Whether a head is one of a stock."""
    return head in stock or (head[0] == "num" and NUMBERS in stock)


def value_left(stock, rows, index):
    """A value of a stock whose first row has an index, None if there is none."""
    check_stock_rows(stock, rows, index)
    found = found_first(rows, index)
    paper, chosen = covered(stock, rows, index, found)
    if paper is not None:
        return None
    return value_of(stock, (), chosen, spare_number(rows))


def idle_rows(stock, rows):
    """The ascending list of the indices of all rows that are the first one of no value of a stock."""
    check_stock(stock)
    check_rows(rows)
    idle = []
    for index in range(len(rows)):
        paper, _ = covered(stock, rows, index, found_first(rows, index))
        if paper is not None:
            idle.append(index)
    return idle


def cover_paper(stock, rows, index):
    """A cover paper, None if there is none."""
    check_stock_rows(stock, rows, index)
    paper, _ = covered(stock, rows, index, found_first(rows, index))
    return paper


def found_first(rows, index):
    """The table of the heads for which the row with an index asks, if there is one."""
    if index == len(rows):
        return {}
    return dict(asked_heads(rows[index]))


def covered(stock, rows, index, found):
    """The pair of a cover paper, and of None; if there is none, that of None, and of the table of what leaves a gap.

    This table tells what stands at places in a value that fits none of the rows ahead of the index.
    """
    if not all([is_head_of(stock, head) for head in found.values()]):
        return (NONE, None)
    left = [(number, asked_heads(row)) for number, row in enumerate(rows[:index])]
    for place in found:
        left = left_with_head(left, place, found[place])
    return split_up(stock, left, found)


def split_up(stock, rows, chosen):
    """A cover paper, or a gap, for the rows that are left, given as pairs (number, heads that are still asked for)."""
    for number, asked in rows:
        if len(asked) == 0:
            return (("row", number), None)
    if len(rows) == 0:
        return (None, chosen)
    place = rows[0][1][0][0]
    cases = []
    # Numbers need no cases of their own: rows that ask for none of them cover these, too.
    for what in stock:
        left = left_without_head(rows, place)
        if len(what) > 1:
            left = left_with_head(rows, place, what)
        paper, gap = split_up(stock, left, with_entry(chosen, place, what))
        if paper is None:
            return (None, gap)
        cases.append((what, paper))
    return (("split", place, tuple(cases)), None)


def spare_number(rows):
    """A number for which no row asks."""
    asked = {}
    for row in rows:
        for _, head in asked_heads(row):
            asked[head] = True
    number = 0
    while ("num", number) in asked:
        number = number + 1
    return number


def value_of(stock, place, chosen, spare):
    """The value at a place, with what is chosen at this place and at its parts, and anything elsewhere."""
    what = chosen.get(place)
    if what is None:
        what = [item for item in stock if item[0] != "shape" or item[2] == 0][0]
    if what == FUNCTIONS:
        return ("fun", "x", ("name", "x"))
    if what == NUMBERS:
        return ("num", spare)
    if what[0] == "num":
        return what
    parts = []
    for at in range(what[2]):
        parts.append(value_of(stock, place + (at,), chosen, spare))
    return ("shape", what[1], tuple(parts))


def is_cover_paper(stock, rows, index, paper):
    """Whether any value is a cover paper."""
    check_stock_rows(stock, rows, index)
    ahead = [asked_heads(row) for row in rows[:index]]
    return covers(stock, ahead, paper, found_first(rows, index), {})


def covers(stock, rows, paper, found, split):
    """Whether a value is a cover paper behind a way, with the tables of heads found and of places split on it."""
    if not begins_with_word(paper):
        return False
    if paper[0] == "none":
        return len(paper) == 1 and not all([is_head_of(stock, head) for head in found.values()])
    if paper[0] == "row":
        if len(paper) != 2 or not is_integer(paper[1], 0, len(rows) - 1):
            return False
        return all([found.get(place) == head for place, head in rows[paper[1]]])
    if paper[0] != "split" or not is_split(stock, paper, found, split):
        return False
    _, place, cases = paper
    for what, inner in cases:
        grown = found
        if len(what) > 1:
            grown = with_entry(found, place, what)
        if not covers(stock, rows, inner, grown, with_entry(split, place, True)):
            return False
    return True


def is_split(stock, paper, found, split):
    """Whether a paper is a split that may stand behind a way, but for the papers in it."""
    if len(paper) != 3 or len(split) == MOST_NESTED:
        return False
    _, place, cases = paper
    if not is_place(place) or place in found or place in split or not may_be_looked_at(found, place):
        return False
    if type(cases) is not tuple or not all([is_tuple_of(case, 2, 2) for case in cases]):
        return False
    whats = [case[0] for case in cases]
    if not all([is_stock_item(what) or is_number_head(what) for what in whats]) or not are_ascending(whats):
        return False
    if not all([what in whats for what in stock]):
        return False
    return all([is_head_of(stock, what) for what in whats])
