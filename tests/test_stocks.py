"""[18], [19], [62]: stocks, values that are left, idle rows and cover papers."""

import random
import unittest

from making import ANY, NO_PROGRAMS, NO_TREES, checked
from nearanswer.errors import InvalidNumber, InvalidRows, InvalidStock, InvalidValue
from nearanswer.rewriting import is_value
from nearanswer.stocks import cover_paper, idle_rows, is_cover_paper, is_of_stock, is_stock, value_left
from nearanswer.testtrees import are_rows, first_row
from nearanswer.texts import read_tree
from test_testtrees import NO_ROWS, rows_of, sized
from values import first, patterns, values

FUN, NUMS = ("fun",), ("num",)
NO, ONE, TWO, YES = ("shape", "No", 0), ("shape", "One", 1), ("shape", "Two", 2), ("shape", "Yes", 0)
TRUTH = (NO, YES)
NO_STOCKS = [
    None, (), [], [FUN], (None,), FUN, ("fun",), (TWO,), (ONE, TWO), (NUMS, FUN), (FUN, FUN), (YES, NO), (("num", 1),), (("fun", 1),), (("shape", "No"),),
    (("shape", "No", 5),), (("shape", "No", True),), (("shape", "No", False),), (("shape", "no", 0),), (("shape", "No", -1),), (["fun"],), ("num", "fun"),
    (("shape", "No", 0, 0),), tuple(("shape", tag, 0) for tag in "ABCDEFG"), (FUN, NUMS, ("kind",)), (("any",),),
]


def some_rows(chance, stock, many):
    heads = [item for item in stock if item[0] == "shape"] + [("shape", "Other", 1)]
    while True:
        rows = tuple(patterns(chance, 3, heads, [0, 1]) for _ in range(many))
        if are_rows(rows):
            return rows


STOCKS = [TRUTH, (FUN,), (NUMS,), (FUN, NUMS), (NO, ONE), (NO, TWO), (NUMS, ONE), (FUN, NUMS, TWO), (NO, ONE, TWO), (FUN, ONE), (NUMS, NO, TWO)]


class StocksTest(unittest.TestCase):

    def test_stocks(self):
        for stock in STOCKS + [(NO,), tuple(("shape", tag, 4 if tag != "F" else 0) for tag in "ABCDEF"), (FUN, NUMS, TWO),
                               (("shape", "A", 0), ("shape", "A", 1)), (FUN, ("shape", "A", 4))]:
            self.assertIs(is_stock(stock), True, stock)
        for value in NO_STOCKS:
            self.assertIs(is_stock(value), False, value)

    def test_of_stock(self):
        for stock, text, told in [
                ((FUN,), "fun x -> x", True), ((FUN,), "1", False), ((NUMS,), "(-7)", True), ((NUMS,), "fun x -> x", False), (TRUTH, "No()", True),
                (TRUTH, "Maybe()", False), (TRUTH, "No(No())", False), ((NO, TWO), "Two(No(), Two(No(), No()))", True),
                ((NO, TWO), "Two(No(), Two(No(), Yes()))", False), ((NO, TWO), "Two(No(), 1)", False), ((NUMS, ONE), "One(One(1))", True),
                ((NUMS, ONE), "One(fun x -> x)", False)]:
            self.assertIs(is_of_stock(stock, read_tree(text)), told, text)

    def test_errors(self):
        good = (ANY,)
        for value in NO_STOCKS:
            checked(self, InvalidStock, is_of_stock, value, None)
            checked(self, InvalidStock, idle_rows, value, None)
            checked(self, InvalidStock, is_cover_paper, value, None, None, None)
            for action in (value_left, cover_paper):
                checked(self, InvalidStock, action, value, None, None)
        for value in NO_ROWS:
            checked(self, InvalidRows, idle_rows, TRUTH, value)
            checked(self, InvalidRows, is_cover_paper, TRUTH, value, None, None)
            for action in (value_left, cover_paper):
                checked(self, InvalidRows, action, TRUTH, value, None)
        for index in (-1, 2, True, False, None, "0", (0,)):
            checked(self, InvalidNumber, is_cover_paper, TRUTH, good, index, None)
            for action in (value_left, cover_paper):
                checked(self, InvalidNumber, action, TRUTH, good, index)
        for value in NO_TREES + NO_PROGRAMS + [read_tree("1 + 2"), read_tree("do ask 1")]:
            checked(self, InvalidValue, is_of_stock, TRUTH, value)

    def test_small_covers(self):
        for stock, texts, idle, covered in [
                (TRUTH, ["Yes()"], [], False), (TRUTH, ["Yes()", "No()"], [], True), (TRUTH, ["Yes()", "No()", "_"], [2], True),
                (TRUTH, ["_", "No()"], [1], True), (TRUTH, ["1", "x"], [0], True), ((NUMS,), ["1", "1", "_"], [1], True), ((NUMS,), ["1", "2"], [], False),
                ((NUMS,), ["No()"], [0], False), ((FUN,), ["1"], [0], False), ((FUN,), ["_", "_"], [1], True), ((NO, ONE), ["No()", "One(_)"], [], True),
                ((NO, ONE), ["No()", "One(No())"], [], False), ((NO, ONE), ["No()", "One(No())", "One(One(_))"], [], True),
                ((NO, ONE), ["No()", "One(_)", "One(One(_))"], [2], True), ((NO, TWO), ["Two(No(), _)", "Two(_, No())", "Two(No(), No())"], [2], False),
                ((NO, ONE), ["One(_, _)", "One()", "_"], [0, 1], True), ((FUN, NUMS), ["0", "1", "x"], [], True), ((NUMS, ONE), ["One(1)", "One(x)", "y"], [], True)]:
            rows = rows_of(*texts)
            self.assertEqual(idle_rows(stock, rows), idle, texts)
            self.assertEqual(value_left(stock, rows, len(rows)) is None, covered, texts)
            for index in range(len(rows)):
                self.assertEqual(value_left(stock, rows, index) is None, index in idle, (texts, index))

    def test_by_all_values(self):
        chance = random.Random(60)
        seen = {True: 0, False: 0}
        for stock in STOCKS:
            some = values(stock, (0, 1, 2), 3)
            for _ in range(40):
                rows = some_rows(chance, stock, chance.randrange(1, 6))
                firsts = {first(rows, value) for value in some}
                idle = [index for index in range(len(rows)) if index not in firsts]
                self.assertEqual(idle_rows(stock, rows), idle)
                for index in range(len(rows) + 1):
                    wanted = index if index < len(rows) else None
                    self.check_index(stock, rows, index, wanted in firsts)
                    seen[wanted in firsts] += 1
        self.assertGreater(min(seen.values()), 200)

    def check_index(self, stock, rows, index, is_left):
        value = value_left(stock, rows, index)
        paper = cover_paper(stock, rows, index)
        self.assertEqual(value is not None, is_left, (stock, rows, index))
        self.assertEqual(paper is None, is_left, (stock, rows, index))
        if is_left:
            self.assertIs(is_value(value), True)
            self.assertIs(is_of_stock(stock, value), True)
            self.assertEqual(first_row(rows, value), index if index < len(rows) else None)
            for made in (("none",), ("row", 0), ("split", (), tuple((what, ("none",)) for what in stock))):
                if index > 0 or made != ("row", 0):
                    self.assertIs(is_cover_paper(stock, rows, index, made), False)
        else:
            self.assertIs(is_cover_paper(stock, rows, index, paper), True)

    def test_lists_are_new(self):
        rows = rows_of("_", "_")
        idle_rows(TRUTH, rows).append(5)
        self.assertEqual(idle_rows(TRUTH, rows), [1])


class PapersTest(unittest.TestCase):

    def test_ends(self):
        rows = rows_of("Other(1)", "No()", "_")
        self.assertIs(is_cover_paper(TRUTH, rows, 0, ("none",)), True)
        self.assertIs(is_cover_paper(TRUTH, rows, 1, ("none",)), False)
        self.assertIs(is_cover_paper(TRUTH, rows, 3, ("row", 2)), True)
        for paper in (("none", 1), ["none"], ("none",) * 2, None, (), "none", ("row", 2, 2), ["row", 2], ("row", True), ("row", 3), ("row", -1), ("row",),
                      ("row", "2"), ("row", None), ("row", 0), ("row", 1), ("lack",), ((),)):
            self.assertIs(is_cover_paper(TRUTH, rows, 3, paper), False, paper)
        self.assertIs(is_cover_paper(TRUTH, rows, 2, ("row", 2)), False)
        self.assertIs(is_cover_paper(TRUTH, rows_of("_", "No()"), 1, ("row", 0)), True)
        self.assertIs(is_cover_paper(TRUTH, rows_of("_", "No()"), 0, ("row", 0)), False)

    def test_heads_found_at_the_beginning(self):
        rows = rows_of("Two(No(), _)", "Two(No(), No())")
        stock = (NO, TWO)
        self.assertIs(is_cover_paper(stock, rows, 1, ("row", 0)), True)
        self.assertIs(is_cover_paper(stock, rows, 2, ("row", 0)), False)
        # A place at which a head was found can't be split; a part of it can, if it has none.
        split = ("split", (), ((NO, ("row", 0)), (TWO, ("row", 0))))
        self.assertIs(is_cover_paper(stock, rows, 1, split), False)
        wide = rows_of("Two(_, _)", "Two(No(), _)")
        for place, told in (((0,), False), ((1,), True), ((), False), ((2,), False)):
            self.assertIs(is_cover_paper(stock, wide, 1, ("split", place, split[2])), told, place)
        self.assertIs(is_cover_paper(stock, wide, 1, ("test", (1,), split[2])), False)
        rows = rows_of("Two(No(), No())", "Two(No(), Two(_, _))", "Two(No(), _)")
        good = ("split", (1,), ((NO, ("row", 0)), (TWO, ("row", 1))))
        self.assertIs(is_cover_paper(stock, rows, 2, good), True)
        for place in ((0,), (2,), (), (1, 0), (True,), [1], (4,), (-1,)):
            self.assertIs(is_cover_paper(stock, rows, 2, ("split", place) + good[2:]), False, place)
        self.assertIs(is_cover_paper(stock, rows, 3, good), False)

    def test_cases(self):
        rows = rows_of("0", "x")
        ends = ((NUMS, ("row", 1)), (("num", 0), ("row", 0)))
        self.assertIs(is_cover_paper((NUMS,), rows, 2, ("split", (), ends)), True)
        self.assertIs(is_cover_paper((NUMS,), rows, 2, ("split", (), ends[:1])), True)
        self.assertIs(is_cover_paper((NUMS,), rows, 2, ("split", (), ((NUMS, ("row", 1)), (("num", 7), ("row", 1))))), True)
        for cases in [
                ends[1:], ends[::-1], ends + ends[1:], (), list(ends), (list(ends[0]), ends[1]), (ends[0] + (1,), ends[1]), (ends[0][:1], ends[1]),
                ((FUN, ("row", 1)),) + ends, ends + ((NO, ("row", 1)),), ((NUMS, ("row", 0)), ends[1]), (ends[0], (("num", True), ("row", 1))),
                (ends[0], (["num", 0], ("row", 0))), (ends[0], (("num", 10 ** 12 + 1), ("row", 1))), (ends[0], (("num", 1), ("row", 0))),
                (ends[0], (("num", "0"), ("row", 1))), None, (None,)]:
            self.assertIs(is_cover_paper((NUMS,), rows, 2, ("split", (), cases)), False, cases)
        self.assertIs(is_cover_paper((NUMS,), rows, 2, ("split", ())), False)
        self.assertIs(is_cover_paper((NUMS,), rows, 2, ("split", (), ends, 1)), False)
        self.assertIs(is_cover_paper((NUMS,), rows, 2, ["split", (), ends]), False)
        for head in (("name", 0), ("kind",), ("split", "Two", 2)):
            self.assertIs(is_cover_paper((NUMS,), rows, 2, ("split", (), tuple(sorted(ends + ((head, ("row", 1)),))))), False)
        # Numbers are heads of their own only if the stock has numbers.
        rows = rows_of("Yes()", "x")
        ends = ((NO, ("row", 1)), (YES, ("row", 0)))
        self.assertIs(is_cover_paper(TRUTH, rows, 2, ("split", (), ends)), True)
        self.assertIs(is_cover_paper(TRUTH, rows, 2, ("split", (), ((("num", 0), ("row", 1)),) + ends)), False)
        self.assertIs(is_cover_paper(TRUTH, rows, 2, ("split", (), ((NO, ("row", 0)), ends[1]))), False)
        self.assertIs(is_cover_paper((NO, YES), rows, 2, ("split", (), ((("shape", "No", False), ("row", 1)), ends[1]))), False)
        self.assertIs(is_cover_paper((FUN, NUMS), rows_of("x"), 1, ("split", (), ((FUN, ("row", 0)), (NUMS, ("row", 0)), (("num", 4), ("row", 0))))), True)

    def test_places_are_split_once(self):
        rows = rows_of("x")
        again = ("split", (), ((NUMS, ("row", 0)),))
        self.assertIs(is_cover_paper((NUMS,), rows, 1, again), True)
        self.assertIs(is_cover_paper((NUMS,), rows, 1, ("split", (), ((NUMS, again),))), False)
        self.assertIs(is_cover_paper((NUMS,), rows, 1, ("split", (), ((NUMS, ("row", 0)), (("num", 1), again)))), False)
        self.assertIs(is_cover_paper((NUMS,), rows, 1, ("split", (0,), ((NUMS, ("row", 0)),))), False)
        stock = (NUMS, TWO)
        inner = ("split", (1,), ((NUMS, ("row", 0)), (TWO, ("row", 0))))
        self.assertIs(is_cover_paper(stock, rows, 1, ("split", (), ((NUMS, ("row", 0)), (TWO, inner)))), True)
        self.assertIs(is_cover_paper(stock, rows, 1, ("split", (), ((NUMS, inner), (TWO, ("row", 0))))), False)

    def test_sixty_splits_within_one_another(self):
        stock = (("shape", "Four", 4), NO)

        def paper_of(many):
            places = [()]
            at = 0
            while len(places) < many:
                places.extend(places[at] + (index,) for index in range(4))
                at += 1
            paper = ("row", 0)
            for place in reversed(places[:many]):
                paper = ("split", place, ((stock[0], paper), (NO, ("row", 0))))
            return paper
        for many in (1, 59, 60, 61):
            self.assertIs(is_cover_paper(stock, (ANY,), 1, paper_of(many)), many <= 60)

    def test_bent_papers(self):
        chance = random.Random(61)
        bent_ones = 0
        for stock in STOCKS:
            for _ in range(15):
                rows = some_rows(chance, stock, chance.randrange(2, 5)) + (ANY,)
                if not are_rows(rows):
                    continue
                for index in range(len(rows) + 1):
                    paper = cover_paper(stock, rows, index)
                    for bent in bendings(paper) if paper else []:
                        bent_ones += 1
                        self.assertIs(is_cover_paper(stock, rows, index, bent), False, (stock, rows, index, bent))
        self.assertGreater(bent_ones, 500)

    def test_greatest_rows(self):
        stock = (FUN, NUMS, NO, ONE, TWO, YES)
        rows = (sized(7),) * 5 + (sized(5),)
        self.assertEqual(idle_rows(stock, rows), [1, 2, 3, 4])
        rows = rows_of("T(1, 2, _, _)", "T(_, 1, U(1), _)", "T(_, _, U(2), 1)", "T(2, _, _, 3)", "T(_, U(3), U(_), _)", "_")
        stock = (FUN, NUMS, NO, ("shape", "T", 4), ("shape", "U", 1), YES)
        self.assertEqual(idle_rows(stock, rows), [])
        self.assertIs(is_cover_paper(stock, rows, 6, cover_paper(stock, rows, 6)), True)
        self.assertEqual(first_row(rows, value_left(stock, rows, 4)), 4)
        deep = ("numis", 1)
        for _ in range(39):
            deep = ("shapeis", "One", (deep,))
        self.assertEqual(idle_rows((NUMS, ONE), (deep,)), [])
        self.assertIsNotNone(value_left((NUMS, ONE), (deep,), 1))


def bendings(paper):
    """The paper with one of its ends, cases or places changed, so that it is none, each of them in turn."""
    if paper[0] == "none":
        return [("none", 0), ["none"], ("row", True)]
    if paper[0] == "row":
        return [("none",), ("row", True), ("row", 9), ["row", paper[1]], ("row", paper[1], 0)]
    _, place, cases = paper
    told = [("split", place + (3,), cases), ("split", list(place), cases), ("split", place, ()), ("split", place, cases[::-1] + cases)]
    for at, (what, inner) in enumerate(cases):
        if len(what) != 2:
            told.append(("split", place, cases[:at] + cases[at + 1:]))
        for bent in bendings(inner):
            told.append(("split", place, cases[:at] + ((what, bent),) + cases[at + 1:]))
    return told
