"""Trees of tests that lead values to the first of some rows."""

from nearanswer.checks import check_value
from nearanswer.errors import InvalidRows
from nearanswer.heads import (MOST_NESTED, MOST_ROWS, asked_heads, fits_rows, heads_at, is_head, is_place,
                              left_with_head, left_without_head, may_be_looked_at, with_entry)
from nearanswer.kindforms import are_ascending
from nearanswer.treeforms import begins_with_word, is_integer, is_tuple_of
from nearanswer.work import fitted


def are_rows(value):
    """Whether any value is rows."""
    return fits_rows(value)


def check_rows(value):
    if not fits_rows(value):
        raise InvalidRows("these are no rows")


def first_row(rows, value):
    """The index of the first row that fits a value, None if none does."""
    check_rows(rows)
    check_value(value)
    for index, row in enumerate(rows):
        if fitted(row, value) is not None:
            return index
    return None


def test_tree(rows):
    """A test tree for rows."""
    check_rows(rows)
    return plan_for([(index, asked_heads(row)) for index, row in enumerate(rows)])


def plan_for(rows):
    """A plan for the rows that are left, given as pairs (index, heads that are still asked for)."""
    if len(rows) == 0:
        return ("lack",)
    index, asked = rows[0]
    if len(asked) == 0:
        return ("row", index)
    place = asked[0][0]
    cases = []
    for head in heads_at(rows, place):
        cases.append((head, plan_for(left_with_head(rows, place, head))))
    return ("test", place, tuple(cases), plan_for(left_without_head(rows, place)))


def is_test_tree(rows, plan):
    """Whether any value is a test tree for rows."""
    check_rows(rows)
    return leads_right([asked_heads(row) for row in rows], plan, {}, {})


def leads_right(rows, plan, found, passed):
    """Whether a plan leads the values of a way right.

    The way is told by the table of the heads that are found at places, and by that of the lists of heads of which
    none is there, at the places where the way went on otherwise.
    """
    if not begins_with_word(plan):
        return False
    if plan[0] == "row":
        return len(plan) == 2 and is_integer(plan[1], 0, MOST_ROWS - 1) and is_first(rows, plan[1], found, passed)
    if plan[0] == "lack":
        return len(plan) == 1 and all([is_out(asked, found, passed) for asked in rows])
    if plan[0] != "test" or not is_test(plan, found, passed):
        return False
    _, place, cases, other = plan
    for head, inner in cases:
        if not leads_right(rows, inner, with_entry(found, place, head), passed):
            return False
    return leads_right(rows, other, found, with_entry(passed, place, [head for head, _ in cases]))


def is_test(plan, found, passed):
    """Whether a plan is a test that may stand at the end of a way, but for the plans in it."""
    if len(plan) != 4 or len(found) + len(passed) == MOST_NESTED:
        return False
    _, place, cases, _ = plan
    if not is_place(place) or place in found or place in passed or not may_be_looked_at(found, place):
        return False
    if type(cases) is not tuple or len(cases) == 0:
        return False
    if not all([is_tuple_of(case, 2, 2) and is_head(case[0]) for case in cases]):
        return False
    return are_ascending([case[0] for case in cases])


def is_first(rows, index, found, passed):
    """Whether the row with an index is the first one that fits all values of a way."""
    if index >= len(rows) or not all([found.get(place) == head for place, head in rows[index]]):
        return False
    return all([is_out(asked, found, passed) for asked in rows[:index]])


def is_out(asked, found, passed):
    """Whether what a row asks for is surely lacking in each value of a way."""
    for place, head in asked:
        if found.get(place, head) != head or head in passed.get(place, []):
            return True
    return False
