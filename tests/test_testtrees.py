"""[16], [17], [61]: rows, heads, places, plans and test trees."""

import random
import unittest

from making import ANY, NO_PROGRAMS, NO_TREES, NUM, checked
from nearanswer import testtrees
from nearanswer.errors import InvalidRows, InvalidValue
from nearanswer.testtrees import are_rows, first_row, is_test_tree
from nearanswer.texts import read_tree
from values import first, follow, patterns, values

TREE_FOR = testtrees.test_tree
LACK = ("lack",)
HEADS = [("shape", "No", 0), ("shape", "One", 1), ("shape", "Two", 2)]


def rows_of(*texts):
    return tuple(row[0] for row in read_tree("match 1 {" + "; ".join(text + " -> 1" for text in texts) + "}")[2])


def row(index):
    return ("row", index)


def sized(size):
    """A pattern of a size."""
    pattern = ("any",)
    for _ in range((size - 1) // 2):
        pattern = ("shapeis", "Two", (ANY, pattern))
    return pattern if size % 2 else ("shapeis", "One", (sized(size - 1),))


NO_ROWS = [None, (), [], [ANY], (None,), (NUM,), (ANY,) * 7, (sized(41),), (sized(20), sized(21)), (ANY, ["any"]), ANY, ("any", "any"),
           (("shapeis", "Two", (("bind", "x"), ("bind", "x"))),), (("numis", True),)]


class RowsTest(unittest.TestCase):

    def test_rows(self):
        for rows in [(ANY,), (ANY,) * 6, (sized(40),), (sized(20), sized(20)), (sized(7),) * 5 + (sized(5),), rows_of("x", "x", "Two(x, 1)")]:
            self.assertIs(are_rows(rows), True)
        for value in NO_ROWS:
            self.assertIs(are_rows(value), False, value)
        self.assertIs(are_rows((sized(7),) * 5 + (sized(6),)), False)

    def test_first_row(self):
        rows = rows_of("Two(0, _)", "Two(x, 1)", "(-1)", "One(One(y))", "No()")
        for text, told in [("Two(0, 1)", 0), ("Two(1, 1)", 1), ("Two(fun x -> x, 1)", 1), ("Two(1, 2)", None), ("(-1)", 2), ("1", None),
                           ("One(One(fun x -> x))", 3), ("One(No())", None), ("No()", 4), ("No(1)", None), ("fun x -> x", None), ("One()", None)]:
            self.assertEqual(first_row(rows, read_tree(text)), told, text)
        self.assertEqual(first_row(rows + (("bind", "z"),), NUM), 5)

    def test_errors(self):
        for value in NO_ROWS:
            checked(self, InvalidRows, first_row, value, None)
            checked(self, InvalidRows, is_test_tree, value, None)
            checked(self, InvalidRows, TREE_FOR, value)
        for value in NO_TREES + NO_PROGRAMS + [read_tree("1 + 2"), read_tree("do ask 1")]:
            checked(self, InvalidValue, first_row, (ANY,), value)


class TestTreesTest(unittest.TestCase):

    def test_small_plans(self):
        rows = rows_of("1", "2")
        good = ("test", (), ((("num", 1), row(0)), (("num", 2), row(1))), LACK)
        self.assertIs(is_test_tree(rows, good), True)
        for plan in [
                row(0), LACK, good[:3], good + (LACK,), list(good), ("test", (), good[2], row(0)), ("test", (), good[2][:1], LACK),
                ("test", (), good[2][::-1], LACK), ("test", (), (), LACK), ("test", (), list(good[2]), LACK), ("test", [], good[2], LACK),
                ("test", (), good[2] + good[2][1:], LACK), ("test", (0,), good[2], LACK), ("test", (), ((("num", 1), row(1)), good[2][1]), LACK),
                ("test", (), ((("num", True), row(0)), good[2][1]), LACK), ("test", (), ((("num", 1), ("row", False)), good[2][1]), LACK),
                ("test", (), ((["num", 1], row(0)), good[2][1]), LACK), ("test", (), ([("num", 1), row(0)], good[2][1]), LACK),
                ("test", (), (good[2][0], (("num", 2), ("row", True))), LACK), ("test", (), ((("num", 1), row(0), 1), good[2][1]), LACK),
                ("test", (), good[2] + ((("num", 3), row(0)),), LACK), ("test", (), good[2] + ((("num",), LACK),), LACK),
                ("test", (), good[2], ["lack"]), ("test", (), good[2], ("lack", 1)), ("test", (), good[2], None), ("test", (), good[2], ()),
                ("test", (), ((("num", 1), ["row", 0]), good[2][1]), LACK), ("test", (), ((("num", 1), ("row",)), good[2][1]), LACK),
                ("test", (), ((("num", 1), ("row", 0, 0)), good[2][1]), LACK), None, (), [], "row", ("row", 5), ("row", -1), ("row", 6), ("row", "0")]:
            self.assertIs(is_test_tree(rows, plan), False, plan)

    def test_more_tests_than_needed(self):
        rows = rows_of("1", "2")
        ends = (("num", 1), row(0)), (("num", 2), row(1))
        self.assertIs(is_test_tree(rows, ("test", (), ends[:1], ("test", (), ends[1:], LACK))), False)
        self.assertIs(is_test_tree(rows, ("test", (), ends + ((("num", 3), LACK), (("shape", "No", 0), LACK)), LACK)), True)
        self.assertIs(is_test_tree(rows, ("test", (), ((("num", 10 ** 12 + 1), LACK),) , LACK)), False)
        inner = ("test", (1,), ((("num", 5), LACK),), LACK)
        self.assertIs(is_test_tree(rows, ("test", (), ends + ((("shape", "Two", 2), inner),), LACK)), True)
        self.assertIs(is_test_tree(rows, ("test", (), ends + ((("shape", "Two", 1), inner),), LACK)), False)
        self.assertIs(is_test_tree(rows, ("test", (), ends + ((("shape", "Two", 5), LACK),), LACK)), False)
        self.assertIs(is_test_tree(rows, ("test", (), ends + ((("shape", "two", 0), LACK),), LACK)), False)
        self.assertIs(is_test_tree(rows, ("test", (), ends + ((("shape", "Two", True), LACK),), LACK)), False)
        self.assertIs(is_test_tree(rows, ("test", (), ends + ((("split", "Two", 2), LACK),), LACK)), False)
        self.assertIs(is_test_tree(rows, ("test", (), ((("name", 0), LACK),) + ends, LACK)), False)
        self.assertIs(is_test_tree(rows, ("split", (), ends, LACK)), False)
        self.assertIs(is_test_tree((ANY,), ("test", (), ends[:1], row(0))), True)
        self.assertIs(is_test_tree((ANY,), ("test", (), (), row(0))), False)
        self.assertIs(is_test_tree((ANY,), ("test", (), [ends[0]], row(0))), False)

    def test_places_that_cannot_be_tested(self):
        rows = (ANY,)
        two = ("shape", "Two", 2)

        def behind(place, *found):
            plan = ("test", place, ((("num", 1), row(0)),), row(0))
            for where, head in reversed(found):
                plan = ("test", where, ((head, plan),), row(0))
            return plan
        self.assertIs(is_test_tree(rows, behind(())), True)
        self.assertIs(is_test_tree(rows, behind((0,))), False)
        self.assertIs(is_test_tree(rows, behind((0,), ((), two))), True)
        self.assertIs(is_test_tree(rows, behind((1,), ((), two))), True)
        self.assertIs(is_test_tree(rows, behind((2,), ((), two))), False)
        self.assertIs(is_test_tree(rows, behind((0,), ((), ("num", 1)))), False)
        self.assertIs(is_test_tree(rows, behind((), ((), two))), False)
        self.assertIs(is_test_tree(rows, behind((0, 0), ((), two))), False)
        self.assertIs(is_test_tree(rows, behind((0, 0), ((), two), ((0,), two))), True)
        self.assertIs(is_test_tree(rows, behind((1, 0), ((), two), ((0,), two))), False)
        self.assertIs(is_test_tree(rows, behind((0,), ((), two), ((0,), ("num", 1)))), False)
        self.assertIs(is_test_tree(rows, behind((True,), ((), two))), False)
        self.assertIs(is_test_tree(rows, behind((-1,), ((), two))), False)
        self.assertIs(is_test_tree(rows, behind((4,), ((), two))), False)
        self.assertIs(is_test_tree(rows, behind(((0,),), ((), two))), False)
        # Where the way goes on otherwise, no head is found.
        plan = ("test", (), ((("num", 1), row(0)),), ("test", (0,), ((two, row(0)),), row(0)))
        self.assertIs(is_test_tree(rows, plan), False)
        plan = ("test", (), ((two, ("test", (0,), ((two, row(0)),), ("test", (0,), ((two, row(0)),), row(0)))),), row(0))
        self.assertIs(is_test_tree(rows, plan), False)

    def test_sixty_tests_within_one_another(self):
        def plan_of(many, is_found):
            """Tests of a place, of its parts, and so on, on one way, which goes on by a case or otherwise."""
            places = [()]
            at = 0
            while len(places) < many:
                places.extend(places[at] + (index,) for index in range(4))
                at += 1
            plan = row(0)
            for index, place in reversed(list(enumerate(places[:many]))):
                case, other = (plan, row(0)) if is_found or index < at else (row(0), plan)
                plan = ("test", place, ((("shape", "Four", 4), case),), other)
            return plan
        for many in (1, 2, 59, 60, 61):
            self.assertIs(is_test_tree((ANY,), plan_of(many, True)), many <= 60)
            self.assertIs(is_test_tree((ANY,), plan_of(many, False)), many <= 60)

    def test_trees_by_all_values(self):
        chance = random.Random(50)
        some = values(HEADS + [("num",), ("fun",)], (0, 1, 2, 7), 3)
        for _ in range(150):
            rows = tuple(patterns(chance, 3, HEADS, [0, 1, 2]) for _ in range(chance.randrange(1, 5)))
            if not are_rows(rows):
                continue
            plan = TREE_FOR(rows)
            self.assertIs(is_test_tree(rows, plan), True)
            for value in chance.sample(some, 150):
                self.assertEqual(follow(plan, value), first(rows, value))
                self.assertEqual(first_row(rows, value), first(rows, value))

    def test_bent_plans(self):
        chance = random.Random(51)
        for _ in range(60):
            rows = tuple(patterns(chance, 3, HEADS, [0, 1]) for _ in range(chance.randrange(1, 4)))
            if are_rows(rows):
                plan = TREE_FOR(rows)
                for bent in bendings(plan):
                    self.assertIs(is_test_tree(rows, bent), False, (rows, bent))

    def test_greatest_rows(self):
        rows = (sized(7),) * 5 + (sized(5),)
        self.assertIs(is_test_tree(rows, TREE_FOR(rows)), True)
        rows = rows_of("T(1, 2, 3, 4)", "T(_, 1, U(1), _)", "T(_, _, U(2), 1)", "T(2, _, _, 3)", "T(_, U(3), U(_), U(_))", "_")
        self.assertIs(is_test_tree(rows, TREE_FOR(rows)), True)
        deep = ("numis", 1)
        for _ in range(39):
            deep = ("shapeis", "One", (deep,))
        self.assertIs(is_test_tree((deep,), TREE_FOR((deep,))), True)


def bendings(plan):
    """The plan with one of its ends, heads or places changed, each of them in turn."""
    if plan == LACK:
        return [row(0), ("lack", 0), ["lack"]]
    if plan[0] == "row":
        return [LACK, row(plan[1] + 1), row(True), ["row", plan[1]]]
    told = [("test", plan[1] + (0,)) + plan[2:], ("test", plan[1], (), plan[3]), ("test", list(plan[1])) + plan[2:]]
    for at, (head, inner) in enumerate(plan[2]):
        for bent in bendings(inner):
            told.append(("test", plan[1], plan[2][:at] + ((head, bent),) + plan[2][at + 1:], plan[3]))
        if inner != plan[3]:
            told.append(("test", plan[1], plan[2][:at] + ((head, plan[3]),) + plan[2][at + 1:], plan[3]))
    return told + [("test", plan[1], plan[2], bent) for bent in bendings(plan[3])]
