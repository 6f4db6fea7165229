"""[12], [13], [58]: kinds, kindings and books, instances and common instances."""

import random
import unittest

from nearanswer.books import common_kinding, is_book, is_instance, is_kinding, plain_kinding
from nearanswer.errors import InvalidBook, InvalidKinding, TooMany
from kinded import BOOK, N, OPT, TRUTH
from making import BARRED, checked, error_of

NO_ROW = ((), None)
OPEN = ("open", 0)


def opt(kind):
    return ("sort", "opt", (kind,))


def pair(one, other):
    return ("sort", "pair", (one, other))


def fun(entry, result, row=NO_ROW):
    return ("fun", entry, row, result)


def deep(many, inner=N):
    for _ in range(many):
        inner = opt(inner)
    return inner


def sized(size):
    """A kind of an odd size, wide rather than deep."""
    if size == 1:
        return N
    half = (size - 1) // 2
    half = half if half % 2 == 1 else half - 1
    return pair(sized(half), sized(size - 1 - half))


NO_KINDINGS = [
    None, (), N, (N,), (N, NO_ROW, 1), [N, NO_ROW], (N, ()), (N, ((),)), (N, [(), None]), (N, ([], None)), (N, ((), True)),
    (N, ((), -1)), (N, ((), 100)), (N, ((), "0")), (N, (("cry",), None)), (N, ((), None, None)), (N, (([],), None)), (N, (((),), None)), (("kind", "opt", (N,)), NO_ROW), (N, (("stop", "ask"), None)), (N, ((1,), None)),
    (("num", 1), NO_ROW), (("open",), NO_ROW), (("open", True), NO_ROW), (("open", -1), NO_ROW), (("open", 100), NO_ROW),
    (("open", None), NO_ROW), (("sort", "opt", ()), NO_ROW), (("sort", "opt", (N, N)), NO_ROW), (("sort", "opt", [N]), NO_ROW),
    (("sort", "list", ()), NO_ROW), (("sort", "truth", (N,)), NO_ROW), (("sort", ["opt"], (N,)), NO_ROW), (opt(1), NO_ROW),
    (("fun", N, N), NO_ROW), (("fun", N, NO_ROW, N, 1), NO_ROW), (fun(N, N, (("cry",), None)), NO_ROW), (fun(N, None), NO_ROW),
    (fun(N, N, ((), 100)), NO_ROW), (fun(N, N, (("pick", "ask"), 0)), NO_ROW), (["num"], NO_ROW), ("num", NO_ROW),
    ((("num",),), NO_ROW), (("kind", 1), NO_ROW), (deep(60), NO_ROW), (fun(opt(deep(58)), N), NO_ROW), (sized(401), NO_ROW),
    (sized(399), (("ask", "ask"), None)), (fun(sized(397), N, (("ask", "ask"), None)), NO_ROW),
]

KINDINGS = [
    (N, NO_ROW), (N, ((), 0)), (N, (("ask", "ask", "pick"), 99)), (("open", 0), NO_ROW), (("open", 99), ((), 99)), (TRUTH, NO_ROW),
    (opt(OPEN), NO_ROW), (pair(N, TRUTH), NO_ROW), (fun(OPEN, ("open", 1), (("stop",), 3)), (("ask", "stop", "stop"), 3)),
    (deep(59), NO_ROW), (fun(opt(deep(57)), N), NO_ROW), (sized(399), (("ask",), None)), (sized(399), NO_ROW),
    (fun(sized(397), N, (("ask",), None)), NO_ROW),
]

NO_BOOKS = [
    None, (), ((),), [(), ()], ((), (), ()), ([], ()), ((), []), (((),), ()), ((), ((),)),
    ((("truth", 0, (("So", ()),)),), ()), ((("list", 0, (("Yes", ()),)),), ()), ((("list", 0, (("No", (N,)),)),), ()),
    ((("list", 0, (("A", ()), ("A", ()))),), ()), ((("a", 0, (("A", ()),)), ("b", 0, (("A", ()),))), ()),
    ((("b", 0, (("B", ()),)), ("a", 0, (("A", ()),))), ()), ((("a", 0, (("B", ()),)), ("a", 0, (("A", ()),))), ()),
    ((("a", 0, ()),), ()), ((("a", 0, tuple((tag, ()) for tag in "ABCDEFG")),), ()), ((("a", 3, (("A", ()),)),), ()),
    ((("a", -1, (("A", ()),)),), ()), ((("a", True, (("A", ()),)),), ()), ((("a", 0, [("A", ())]),), ()),
    ((("a", 0, (["A", ()],)),), ()), ((("a", 0, (("A", []),)),), ()), ((("a", 0, (("a", ()),)),), ()),
    ((("A", 0, (("A", ()),)),), ()), ((("fun", 0, (("A", ()),)),), ()), ((("a", 0, (("A", (N,) * 5),)),), ()),
    ((("a", 0, (("A", (OPEN,)),)),), ()), ((("a", 1, (("A", (("open", 1),)),)),), ()), ((("a", 0, (("A", (1,)),)),), ()),
    ((("a", 1, (("A", (fun(N, N, ((), 0)),)),)),), ()), ((("a", 0, (("A", (fun(N, N, (("ask",), None)),)),)),), ()),
    ((("a", 1, (("A", (("sort", "a", ()),)),)),), ()), ((("a", 0, (("A", (("sort", "b", ()),)),)),), ()), ((("a", 0),), ()),
    ((), (("ask", N),)), ((), (("ask", N, N, N),)), ((), (["ask", N, N],)), ((), (("Ask", N, N),)), ((), (("do", N, N),)),
    ((), (("ask", OPEN, N),)), ((), (("ask", N, OPEN),)), ((), (("ask", N, fun(N, N, ((), 0))),)), ((), (("ask", N, 1),)),
    ((), (("b", N, N), ("a", N, N))), ((), (("a", N, N), ("a", N, TRUTH))), ((), (("ask", N, fun(N, N, (("cry",), None))),)),
    ((), (("ask", N, ("sort", "truth", (N,))),)), ((), (("ask", ("sort", "list", ()), N),)),
]


class BooksTest(unittest.TestCase):

    def test_books(self):
        for book in [
                ((), ()), BOOK, ((), (("ask", TRUTH, TRUTH),)), ((), (("ask", N, fun(N, TRUTH, (("ask", "ask"), None))),)),
                ((("a", 2, (("A", (OPEN, ("open", 1), ("sort", "a", (N, OPEN)), fun(OPEN, N))),)),), ()),
                ((("a", 0, (("B", ()), ("A", ()))), ("b", 0, (("C", (("sort", "a", ()),)),))), ()),
                ((("a", 0, (("A", (fun(N, N, (("ask",), None)),)),)),), (("ask", ("sort", "a", ()), N),))]:
            self.assertIs(is_book(book), True, book)

    def test_no_books(self):
        for value in NO_BOOKS:
            self.assertIs(is_book(value), False, value)

    def test_bounds_of_books(self):
        letters = "abcdefghijklm"
        for many in (0, 1, 8, 9):
            sorts = tuple((letter, 0, ((letter.upper(), ()),)) for letter in letters[:many])
            self.assertIs(is_book((sorts, ())), many <= 8)
        for many in (0, 1, 12, 13):
            self.assertIs(is_book(((), tuple((letter, N, N) for letter in letters[:many]))), many <= 12)
        for many in range(8):
            tags = tuple((letter.upper(), ()) for letter in letters[:many])
            self.assertIs(is_book(((("a", 0, tags),), ())), 1 <= many <= 6)
        for many in range(6):
            self.assertIs(is_book(((("a", 0, (("A", (N,) * many),)),), ())), many <= 4)

    def test_sizes_of_kinds_in_books(self):
        def with_kind(kind):
            return (BOOK[0] + (("z", 0, (("Z", (kind,)),)),), BOOK[1])
        for size in (1, 19, 21):
            self.assertIs(is_book(with_kind(sized(size))), size <= 20)
        self.assertIs(is_book(with_kind(opt(sized(19)))), True)
        self.assertIs(is_book(with_kind(opt(opt(sized(19))))), False)
        self.assertIs(is_book(with_kind(deep(19))), True)
        self.assertIs(is_book(with_kind(deep(20))), False)
        self.assertIs(is_book(with_kind(fun(sized(17), N, (("ask",), None)))), True)
        self.assertIs(is_book(with_kind(fun(sized(17), N, (("ask", "ask"), None)))), False)
        self.assertIs(is_book((BOOK[0], BOOK[1] + (("z", deep(19), N),))), True)
        self.assertIs(is_book((BOOK[0], BOOK[1] + (("z", N, deep(20)),))), False)

    def test_kindings(self):
        for value in KINDINGS:
            self.assertIs(is_kinding(BOOK, value), True, value)
        for value in NO_KINDINGS:
            self.assertIs(is_kinding(BOOK, value), False, value)
        self.assertIs(is_kinding(((), ()), (TRUTH, NO_ROW)), True)
        self.assertIs(is_kinding(((), ()), (OPT, NO_ROW)), False)
        self.assertIs(is_kinding(((), ()), (N, (("ask",), None))), False)

    def test_shared_kinds_are_counted_as_often_as_they_stand(self):
        kind = N
        for _ in range(59):
            kind = pair(kind, kind)
        self.assertIs(is_kinding(BOOK, (kind, NO_ROW)), False)
        self.assertIs(is_book((BOOK[0], BOOK[1] + (("z", kind, N),))), False)

    def test_wrong_arguments(self):
        good = (N, NO_ROW)
        for value in NO_BOOKS:
            checked(self, InvalidBook, is_kinding, value, None)
            checked(self, InvalidBook, plain_kinding, value, None)
            checked(self, InvalidBook, is_instance, value, None, None)
            checked(self, InvalidBook, common_kinding, value, None, None)
        for value in NO_KINDINGS:
            checked(self, InvalidKinding, plain_kinding, BOOK, value)
            for action in (is_instance, common_kinding):
                checked(self, InvalidKinding, action, BOOK, value, None)
                checked(self, InvalidKinding, action, BOOK, good, value)

    def test_plain_kindings(self):
        for kinding, plain in [
                ((N, ((), 7)), (N, ((), 0))), ((("open", 7), ((), 7)), (OPEN, ((), 0))),
                ((pair(("open", 5), pair(("open", 2), ("open", 5))), NO_ROW), (pair(OPEN, pair(("open", 1), OPEN)), NO_ROW)),
                ((fun(("open", 3), ("open", 1), ((), 9)), ((), 4)), (fun(OPEN, ("open", 1), ((), 0)), ((), 1))),
                ((fun(fun(N, N, ((), 8)), fun(N, N, ((), 6)), (("ask",), 7)), ((), 6)),
                 (fun(fun(N, N, ((), 0)), fun(N, N, ((), 2)), (("ask",), 1)), ((), 2)))]:
            self.assertEqual(plain_kinding(BOOK, kinding), plain)
        for kinding in KINDINGS:
            plain = plain_kinding(BOOK, kinding)
            self.assertEqual(plain_kinding(BOOK, plain), plain)
            self.assertIs(is_instance(BOOK, plain, kinding), True)
            self.assertIs(is_instance(BOOK, kinding, plain), True)

    def test_instances(self):
        wide = (fun(OPEN, OPEN, (("ask",), 0)), ((), 0))
        for narrow, told in [
                (wide, True), ((fun(N, N, (("ask",), None)), NO_ROW), True), ((fun(N, TRUTH, (("ask",), None)), NO_ROW), False),
                ((fun(N, N, NO_ROW), NO_ROW), False), ((fun(N, N, (("ask", "ask"), None)), (("ask",), None)), True),
                ((fun(N, N, (("ask", "ask"), None)), NO_ROW), False), ((fun(N, N, (("ask", "pick"), 4)), (("pick",), 4)), True),
                ((fun(N, N, (("ask", "pick"), 4)), (("pick",), 5)), False), ((fun(N, N, (("ask",), 4)), NO_ROW), False),
                ((OPEN, ((), 0)), False), ((fun(wide[0], wide[0], (("ask",), 0)), ((), 0)), True)]:
            self.assertIs(is_instance(BOOK, narrow, wide), told, narrow)
        self.assertIs(is_instance(BOOK, (N, NO_ROW), (N, ((), 0))), True)
        self.assertIs(is_instance(BOOK, (N, ((), 0)), (N, NO_ROW)), False)
        self.assertIs(is_instance(BOOK, (N, (("ask",), None)), (N, (("ask", "ask"), 0))), False)
        self.assertIs(is_instance(BOOK, (N, (("ask", "ask"), None)), (N, (("ask",), None))), False)
        self.assertIs(is_instance(BOOK, (OPEN, NO_ROW), (N, NO_ROW)), False)
        self.assertIs(is_instance(BOOK, (opt(N), NO_ROW), (pair(N, N), NO_ROW)), False)
        self.assertIs(is_instance(BOOK, (pair(("open", 1), ("open", 1)), NO_ROW), (pair(OPEN, ("open", 1)), NO_ROW)), True)
        self.assertIs(is_instance(BOOK, (pair(OPEN, ("open", 1)), NO_ROW), (pair(OPEN, OPEN), NO_ROW)), False)

    def test_common_kindings(self):
        for one, other, told in [
                ((N, NO_ROW), (N, ((), 0)), (N, NO_ROW)), ((N, (("ask",), 0)), (N, (("pick",), 0)), (N, (("ask", "pick"), 0))),
                ((N, (("ask",), None)), (N, ((), None)), None), ((N, (("ask", "ask"), 0)), (N, (("ask",), 5)), (N, (("ask", "ask"), 0))),
                ((OPEN, ((), 0)), (OPEN, ((), 0)), (OPEN, ((), 0))), ((N, ((), 0)), (TRUTH, ((), 0)), None),
                ((pair(OPEN, OPEN), NO_ROW), (pair(N, ("open", 3)), NO_ROW), (pair(N, N), NO_ROW)),
                ((pair(OPEN, OPEN), NO_ROW), (pair(OPEN, opt(OPEN)), NO_ROW), None),
                ((pair(OPEN, opt(OPEN)), NO_ROW), (pair(("open", 2), ("open", 2)), NO_ROW), None),
                ((fun(N, N, (("ask",), 0)), ((), 0)), (fun(N, N, (("pick",), 0)), ((), 0)), None),
                ((fun(N, N, (("ask",), 0)), ((), 0)), (fun(N, N, (("pick",), 0)), ((), 1)),
                 (fun(N, N, (("ask", "pick"), 0)), (("pick",), 0))),
                ((fun(N, N, ((), 0)), (("ask",), 0)), (fun(N, N, ((), 0)), ((), 0)), None)]:
            self.assertEqual(common_kinding(BOOK, one, other), told, (one, other))
            self.assertEqual(common_kinding(BOOK, other, one), told, (one, other))

    def test_common_kindings_that_are_too_great(self):
        def doubling(many, first):
            """pair(0, 1), pair(1, 2) and so on, in one another, each made of the same index twice."""
            kind = N
            for at in range(many):
                left = pair(("open", at + first), ("open", at + first))
                kind = pair(pair(("open", at + 1 + first), left), kind)
            return kind

        def chain(many):
            kind = N
            for at in range(many):
                kind = pair(pair(("open", at + 1), ("open", at + 1)), kind)
            return kind
        checked(self, (TooMany, {"limit": 400}), common_kinding, BOOK, (doubling(12, 0), NO_ROW), (chain(12), NO_ROW))
        wide = pair(("open", 0), pair(("open", 0), sized(199)))
        self.assertEqual(common_kinding(BOOK, (wide, NO_ROW), (pair(sized(99), ("open", 1)), NO_ROW))[0],
                         pair(sized(99), pair(sized(99), sized(199))))
        checked(self, (TooMany, {"limit": 400}), common_kinding, BOOK, (wide, NO_ROW), (pair(sized(101), ("open", 1)), NO_ROW))
        deeper = pair(OPEN, deep(57, ("open", 0)))
        self.assertEqual(common_kinding(BOOK, (deeper, NO_ROW), (pair(opt(N), ("open", 1)), NO_ROW))[0], pair(opt(N), deep(58)))
        checked(self, (TooMany, {"limit": 60}), common_kinding, BOOK, (deeper, NO_ROW), (pair(deep(2), ("open", 1)), NO_ROW))
        row = (N, (("ask",) * 399, 0))
        self.assertEqual(common_kinding(BOOK, row, row), row)
        checked(self, (TooMany, {"limit": 400}), common_kinding, BOOK, row, (N, (("pick",), 0)))
        self.assertIsNone(common_kinding(BOOK, (pair(N, deep(58)), (("ask",) * 300, None)), (OPEN, (("pick",), None))))

    def test_common_kindings_are_instances_of_both(self):
        chance = random.Random(20)

        def kind(depth):
            roll = chance.randrange(6)
            if depth == 0 or roll < 2:
                return chance.choice([N, TRUTH, OPEN, ("open", 1), ("open", 2)])
            if roll < 4:
                return fun(kind(depth - 1), kind(depth - 1), row())
            return opt(kind(depth - 1)) if roll == 4 else pair(kind(depth - 1), kind(depth - 1))

        def row():
            deeds = tuple(sorted(chance.choices(["ask", "pick", "stop"], k=chance.randrange(3))))
            return (deeds, chance.choice([None, 0, 1, 2]))
        seen = [0, 0]
        for _ in range(600):
            one, other = (kind(2), row()), (kind(2), row())
            common = common_kinding(BOOK, one, other)
            seen[common is None] += 1
            if common is not None:
                self.assertIs(is_instance(BOOK, common, one), True, (one, other))
                self.assertIs(is_instance(BOOK, common, other), True, (one, other))
                self.assertEqual(plain_kinding(BOOK, common), common)
            else:
                self.assertFalse(is_instance(BOOK, one, other) or is_instance(BOOK, other, one))
            if is_instance(BOOK, one, other):
                self.assertEqual(common, plain_kinding(BOOK, one))
        self.assertGreater(min(seen), 100)

    def test_names_of_books(self):
        for word in BARRED:
            self.assertIs(is_book(((), ((word, N, N),))), False)
        self.assertIsNone(error_of(is_kinding, BOOK, None))
