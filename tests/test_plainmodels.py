"""[49], [86], and of [3] that a program with one of the library's answerers around it shows what the plain model tells."""

import unittest

import handmodel
from jobs import DEEDS, jobs, looping, plain_programs
from making import NO_NAMES, NO_PROGRAMS, NO_TREES, NUM, A, X, checked, error_of, nested, sized
from nearanswer.errors import InvalidName, InvalidNumber, InvalidProgram, InvalidTree, InvalidValue, NearError, TooMany
from nearanswer.library import (done_anew, row_items, row_value, with_choices, with_faults, with_first, with_reading, with_rows, with_state, with_turns,
                                written_down)
from nearanswer.plainmodels import (told_anew, told_choices, told_faults, told_first, told_reading, told_rows, told_state, told_turns,
                                    told_written)
from nearanswer.runs import run_of
from nearanswer.shownalike import shown_by
from nearanswer.texts import read_tree
from nearanswer.yields import asked
from test_talks import NO_VALUES

END = ("shape", "End", ())
ROW = row_value((("num", 4), ("num", 5), ("shape", "No", ()), ("num", 6)))
VALUES = [("num", 5), NUM, END, ("fun", "x", X), read_tree("Row(1, 2)")]
ROWS = [ROW, END, row_value((NUM,)), row_value(tuple(VALUES)), row_value((NUM,) * 40)]
READ = ROWS + [read_tree("Row(1, Row(2, 3))"), NUM, read_tree("Row(1)"), read_tree("End(1)"), read_tree("fun x -> x")]
ONES = {"faults": (told_faults, with_faults), "rows": (told_rows, with_rows), "choices": (told_choices, with_choices), "first": (told_first, with_first)}
NO_MOSTS = [401, -1, True, False, None, "9", 9.0, (9,), 10 ** 100]


def shown(tree):
    """The shown form of the end of a run, None if it does not come to one or is too great on the way."""
    try:
        end = shown_by(tree, "rewriting", 3000)[0]
    except TooMany:
        return None
    return None if end == ("more",) else end


def outcome(model, arguments, most):
    try:
        return model(*arguments, most)
    except NearError as error:
        return type(error), vars(error)


def calls(kind, seed, many):
    """The calls of the plain models of an answerer by chance: the model, its arguments, and the tree of the library."""
    ones = jobs(seed, kind, many) + jobs(seed + 1, kind, many // 3, 5, 0.01) + jobs(seed + 2, kind, many // 3, 3, 0.3) + plain_programs()
    for at, one in enumerate(ones):
        if kind == "state":
            yield told_state, (VALUES[at % 5], one), with_state(VALUES[at % 5], one)
        elif kind == "reading":
            yield told_reading, (READ[at % 10], one), with_reading(READ[at % 10], one)
        elif kind == "turns":
            group = tuple((ones * 2)[at:at + 1 + at % 4])
            yield told_turns, (group,), with_turns(group)
        elif kind == "anew":
            yield told_anew, ("ask", ROWS[at % 5], one), done_anew("ask", ROWS[at % 5], one)
        else:
            yield ONES[kind][0], (one,), ONES[kind][1](one)


class PlainModelsTest(unittest.TestCase):

    def test_library_shows_what_the_models_tell(self):
        for kind in DEEDS:
            seen = {}
            for model, arguments, tree in calls(kind, 470, 90):
                told, end = outcome(model, arguments, 400), shown(tree)
                if end and told != ("more",) and told[0] not in (TooMany, InvalidTree):
                    self.assertEqual(end, told, (model.__name__, arguments))
                    seen[end[0]] = seen.get(end[0], 0) + 1
            self.assertTrue(seen["value"] > 50 and seen["stuck"] > 1 and seen["unanswered"] > 1, (kind, seen))

    def test_models_are_those_by_single_steps(self):
        for kind in DEEDS:
            for at, (model, arguments, _) in enumerate(calls(kind, 471, 60)):
                by_hand = getattr(handmodel, model.__name__)
                try:
                    told, count = handmodel.told(by_hand, arguments, 400)
                except NearError:
                    told, count = None, 30
                self.check_model(model, by_hand, arguments, 400)
                for most in (0, 1, at % 17, count - 1, count, count + 1):
                    if 0 <= most <= 400:
                        self.check_model(model, by_hand, arguments, most)
                if told and told[0] == "value" and count <= 400:
                    self.assertEqual(model(*arguments, count), told)
                    if count:
                        self.assertEqual(model(*arguments, count - 1), ("more",))

    def check_model(self, model, by_hand, arguments, most):
        try:
            told = handmodel.told(by_hand, arguments, most)[0]
        except NearError as error:
            told = type(error), vars(error)
        self.assertEqual(outcome(model, arguments, most), told, (model.__name__, arguments, most))

    def test_written_down_and_done_anew(self):
        """What is answered from outside is written down; done anew with it, a program comes to the same."""
        many = 0
        for at, one in enumerate(jobs(472, "anew", 150) + plain_programs()):
            row = ROWS[at % 5]
            answers = tuple(("ask", value) for value in row_items(row))
            try:
                told = told_written("ask", row, one, 400)
                end, given, _ = asked(written_down("ask", one), answers, 400)
            except (TooMany, InvalidTree):
                continue
            self.assertEqual(told, handmodel.told(handmodel.told_written, ("ask", row, one), 400)[0])
            if ("more",) in (told, end):
                continue
            self.assertEqual(end, told)
            if told[0] == "value":
                items = row_items(row)[:len(given)]
                anew = row_value(items)
                self.assertEqual(told_anew("ask", anew, one, 400), ("value", told[1][1][0]))
                self.assertEqual(shown(done_anew("ask", anew, one)) or ("value", told[1][1][0]), ("value", told[1][1][0]))
                # There may be more items than deeds.
                self.assertEqual(told_anew("ask", row, one, 400), ("value", told[1][1][0]))
                many += len(given) > 0
        self.assertGreater(many, 40)

    def told(self, model, text, *more):
        return model(*more[:-1], read_tree(text), more[-1])

    def test_state(self):
        five = ("num", 5)
        for text, told in (("do get 0", ("Pair", (5, 5))), ("do put 7", ("Pair", (7, 7))), ("let a = do put 7 in do get a", ("Pair", (7, 7))), ("Two(do get 0, do put 1, do get 0)", ("Pair", (("Two", (5, 1, 1)), 1))),
                           ("3", ("Pair", (3, 5))), ("fun x -> do get 0", ("Pair", ("fun", 5))), ("let f = do put (fun x -> x) in f 1", ("Pair", (1, "fun")))):
            self.assertEqual(self.told(told_state, text, five, 9), ("value", told))
        self.assertEqual(self.told(told_state, "do get 0 + No()", five, 9), ("stuck", "number"))
        self.assertEqual(self.told(told_state, "do put (do other Two(1))", five, 9), ("unanswered", "other", ("Two", (1,))))
        self.assertEqual(self.told(told_state, "answer do get 1 {plain x -> x; get x k -> k 9}", five, 9), ("value", ("Pair", (9, 5))))
        # An inner answerer answers just its own deeds.
        self.assertEqual(self.told(told_state, "answer do get 1 + do put 3 {plain x -> x; get x k -> k 9}", five, 9), ("value", ("Pair", (12, 3))))

    def test_faults_and_rows(self):
        for text, told in (("do fault 3 + 1", ("Bad", (3,))), ("1 + 1", ("Good", (2,))), ("Two(do fault (do fault 1), 1 2)", ("Bad", (1,))), ("fun x -> do fault 1", ("Good", ("fun",)))):
            self.assertEqual(self.told(told_faults, text, 9), ("value", told))
        self.assertEqual((self.told(told_faults, "1 2", 9), self.told(told_faults, "do ask 1", 9)), (("stuck", "call"), ("unanswered", "ask", 1)))
        for text, told in (("1", ("End", (1,))), ("do hand 1 + do hand 2", ("Row", (1, ("Row", (2, ("End", (3,))))))), ("do hand (do hand No())", ("Row", (("No", ()), ("Row", (("No", ()), ("End", (("No", ()),)))))))):
            self.assertEqual(self.told(told_rows, text, 9), ("value", told))
        self.assertEqual((self.told(told_rows, "do hand 1 2", 9), self.told(told_rows, "do ask (do hand 1)", 9)), (("stuck", "call"), ("unanswered", "ask", 1)))

    def test_picks(self):
        """A pick of 0, of a number below 0, and of what is no number; a fail within a pick."""
        for text, row in (("do pick 0", ()), ("do pick (0 - 3)", ()), ("do pick (-3)", ()), ("do pick 3", (0, 1, 2)), ("do fail 1", ()), ("7", (7,)), ("match do pick 3 {1 -> do fail 0; x -> x * 10}", (0, 20)),
                          ("let a = do pick 2 in let b = do pick a in 10 * a + b", (10,)), ("let a = do pick 3 in let b = do pick a in 10 * a + b", (10, 20, 21)), ("do pick 2 + do pick 0", ()), ("do pick (do pick 3)", (0, 0, 1))):
            told = ("value", handmodel.shown_row(list(row)))
            self.assertEqual(self.told(told_choices, text, 400), told)
            self.assertEqual(self.told(told_first, text, 400), ("value", ("Good", row[:1]) if row else ("End", ())))
            pairs = [("Pair", (one, ("Row", (4, ("End", ()))))) for one in row]
            self.assertEqual(self.told(told_reading, text, row_value((("num", 4),)), 400), ("value", handmodel.shown_row(pairs)))
        for text in ("do pick No()", "do pick (fun x -> x)", "match do pick 2 {0 -> 5; x -> do pick Two(x, 1)}"):
            self.assertEqual(self.told(told_choices, text, 99), ("stuck", "number"))
            self.assertEqual(self.told(told_reading, text, END, 99), ("stuck", "number"))
        self.assertEqual(self.told(told_first, "do pick No()", 9), ("stuck", "number"))
        # Nothing is run behind the first result.
        self.assertEqual(self.told(told_first, "match do pick 9 {0 -> do fail 1; 1 -> 5; x -> x 1}", 9), ("value", ("Good", (5,))))
        self.assertEqual(self.told(told_choices, "match do pick 9 {0 -> do fail 1; 1 -> 5; x -> x 1}", 9), ("stuck", "call"))
        self.assertEqual(self.told(told_first, "match do pick 9 {0 -> do ask 1; x -> 5}", 9), ("unanswered", "ask", 1))
        self.assertEqual(self.told(told_choices, "match do pick 2 {0 -> 1; x -> do ask x}", 9), ("unanswered", "ask", 1))
        self.assertEqual(self.told(told_choices, "do pick 1000000000000", 400), ("more",))
        self.assertEqual(self.told(told_first, "do pick 1000000000000", 1), ("value", ("Good", (0,))))

    def test_counts_of_picks(self):
        """Each number that a pick gives counts one when it is given; just as many steps are enough, and one less is not."""
        for model, text, count in ((told_choices, "do pick 2 + do pick 2", 10), (told_choices, "do pick 3", 3), (told_choices, "do pick 0", 0), (told_first, "do pick 3", 1), (told_choices, "7", 0), (told_first, "do fail 1", 0),
                                   (told_first, "match do pick 3 {0 -> do fail 0; 1 -> do fail 0; x -> x}", 6), (told_choices, "do pick (1 + 1)", 3)):
            self.assertEqual(self.told(model, text, count)[0], "value")
            if count:
                self.assertEqual(self.told(model, text, count - 1), ("more",))
        self.assertEqual((self.told(told_reading, "do next (do pick 2)", ROW, 2)[0], self.told(told_reading, "do next (do pick 2)", ROW, 1)), ("value", ("more",)))
        # Giving a pick's last number, or ending without one, needs no further step.
        self.assertEqual(self.told(told_choices, "match do pick 1 {0 -> do pick No()}", 2), ("stuck", "number"))
        self.assertEqual(self.told(told_choices, "match do pick 1 {0 -> do pick No()}", 1), ("more",))

    def test_turns(self):
        def turns(*texts):
            return told_turns(tuple(read_tree(text) for text in texts), 99)
        for texts, said in ((("1",), []), (("do say 1",), [1]), (("let a = do turn 0 in do say 2",), [2]), (("let a = do turn 7 in do say a",), [7]), (("do turn (do turn 1)", "do say 5"), [5]),
                            (("let a = do turn 0 in do say 1", "do say 2"), [2, 1]), (("let a = do say 1 in let b = do turn 0 in do say 2", "let a = do say 3 in let b = do turn 0 in do say 4", "do say 5"), [1, 3, 5, 2, 4]),
                            (("do say Two(do turn 1, do turn 2)", "let a = do turn 0 in do say 9", "do say 8", "7"), [8, 9, ("Two", (1, 2))]), (("do say 1 + do say 1",) * 4, [1, 1] * 4)):
            self.assertEqual(turns(*texts), ("value", handmodel.shown_row(said)))
        self.assertEqual(turns("do turn 0", "1 2", "do say 1"), ("stuck", "call"))
        self.assertEqual(turns("do turn 0", "do ask 3"), ("unanswered", "ask", 3))
        self.assertEqual(turns("do say 1", "do turn 0 + No()", "do say 3"), ("stuck", "number"))

    def test_reading(self):
        two = row_value((("num", 4), ("num", 5)))
        one = ("Row", (5, ("End", ())))
        for text, pairs in (("do next 0", [(4, one)]), ("do next 0 + do next 0", [(9, ("End", ()))]), ("do next 0 + do next 0 + do next 0", []), ("1", [(1, ("Row", (4, one)))]), ("do fail (do next 0)", []),
                            ("match do pick 2 {0 -> do next 0; x -> do next 0 * do next 0}", [(4, one), (20, ("End", ()))]), ("let a = do next 0 in do pick a + do next 0", [(number + 5, ("End", ())) for number in range(4)])):
            self.assertEqual(self.told(told_reading, text, two, 99), ("value", handmodel.shown_row([("Pair", pair) for pair in pairs])))
        for value in (NUM, read_tree("Row(1)"), read_tree("End(1)"), ("fun", "x", X), read_tree("Row(1, 2, 3)"), read_tree("Pair(1, End())")):
            self.assertEqual(self.told(told_reading, "do next 0", value, 9), ("stuck", "match"))
            self.assertEqual(self.told(told_reading, "7", value, 9)[0], "value")
        self.assertEqual(self.told(told_reading, "do next (do next 0)", read_tree("Row(1, 7)"), 9), ("stuck", "match"))
        self.assertEqual(self.told(told_reading, "do next 0", read_tree("Row(1, 7)"), 9), ("value", ("Row", (("Pair", (1, 7)), ("End", ())))))

    def test_anew(self):
        two = row_value((("num", 10), ("num", 20)))
        for text, told in (("do ask 1 + do ask 2", ("value", 30)), ("do ask 1", ("value", 10)), ("7", ("value", 7)), ("do ask 1 + do ask 2 + do ask 3", ("unanswered", "ask", 3)), ("do ask (do tell 1)", ("unanswered", "tell", 1)),
                           ("do ask 1 2", ("stuck", "call"))):
            self.assertEqual(self.told(told_anew, text, "ask", two, 9), told)
        for text, told in (("do ask 1 + do ask 2", ("value", ("Pair", (30, handmodel.shown_row([20, 10]))))), ("do ask 1", ("value", ("Pair", (10, handmodel.shown_row([10]))))), ("7", ("value", ("Pair", (7, ("End", ()))))),
                           ("do ask 1 + do ask 2 + do ask 3", ("unanswered", "ask", 3)), ("1 + No()", ("stuck", "number"))):
            self.assertEqual(self.told(told_written, text, "ask", two, 9), told)
        self.assertEqual(self.told(told_anew, "do ask 1", "ask", END, 0), ("unanswered", "ask", 1))
        # Deeds with the names of reasons.
        for deed, text in (("call", "1 2"), ("number", "1 + No()"), ("great", "999999999999 * 2")):
            self.assertEqual(self.told(told_anew, text, deed, two, 9), ("stuck", deed))
            self.assertEqual(self.told(told_written, text, deed, two, 9), ("stuck", deed))
            self.assertEqual(self.told(told_anew, "do " + deed + " 1", deed, two, 9), ("value", 10))

    def test_bounds_of_steps(self):
        for model, arguments, deed in ((told_state, (NUM,), "get"), (told_rows, (), "hand"), (told_reading, (NUM,), "fail")):
            for most in (0, 1, 400):
                looped = looping(deed)
                told = model(*arguments, looped, most)
                self.assertEqual(told, ("more",) if most < 400 or deed != "fail" else ("value", ("End", ())))
        for model in (told_faults, told_rows, told_choices, told_first):
            self.assertEqual((model(read_tree("1 + 1"), 0), model(read_tree("1 + 1"), 1)[0]), (("more",), "value"))
            self.assertEqual(model(NUM, 0)[0], "value")
        self.assertEqual((told_turns((read_tree("1 + 1"), read_tree("2 + 2")), 1), told_turns((read_tree("1 + 1"), read_tree("2 + 2")), 2)), (("more",), ("value", ("End", ()))))

    def test_what_is_too_great(self):
        great = ("let", "x", sized(1000), ("shape", "Row", (("name", "x"),) * 4))
        deep = ("let", "y", nested(60), nested(60, ("name", "y")))
        for program, limit in ((great, 3000), (deep, 120)):
            error = (TooMany, {"limit": limit})
            self.assertEqual(error_of(run_of, program, 400), error)
            for model in (told_faults, told_rows, told_choices, told_first):
                self.assertEqual(error_of(model, program, 400), error)
                self.assertIsNone(error_of(model, program, 0))
            self.assertEqual(error_of(told_turns, (program,), 400), error)
            self.assertEqual(error_of(told_state, NUM, program, 400), error)
            self.assertEqual(error_of(told_anew, "ask", END, program, 400), error)
            self.assertEqual(error_of(told_written, "ask", END, program, 400), error)
            self.assertEqual(error_of(told_reading, NUM, program, 400), error)
        two = ("shape", "Two", (("do", "get", NUM), ("do", "get", NUM)))
        self.assertEqual(error_of(told_state, sized(1499), two, 0), None)
        checked(self, InvalidTree, told_state, sized(1500), two, 0)
        checked(self, InvalidTree, told_state, nested(119), ("op", "+", ("do", "get", NUM), NUM), 0)
        self.assertIsNone(error_of(told_state, nested(118), ("op", "+", ("do", "get", NUM), NUM), 0))
        asks = ("shape", "Two", (("do", "ask", NUM), ("do", "ask", NUM)))
        row = row_value((sized(1490), NUM))
        self.assertIsNone(error_of(told_anew, "ask", row, asks, 0))
        for model in (told_anew, told_written):
            checked(self, InvalidTree, model, "ask", row_value((sized(1490), NUM)), ("shape", "Two", (sized(1510), ("do", "ask", NUM))), 0)
        nexts = ("shape", "Two", (sized(1510), ("do", "next", NUM)))
        checked(self, InvalidTree, told_reading, row, nexts, 0)

    def test_wrong_arguments(self):
        for error, values in ((InvalidTree, NO_TREES), (InvalidProgram, NO_PROGRAMS)):
            for value in values:
                for model in (told_faults, told_rows, told_choices, told_first):
                    checked(self, error, model, value, None)
                checked(self, error, told_state, NUM, value, None)
                checked(self, error, told_reading, NUM, value, None)
                checked(self, error, told_anew, "ask", END, value, None)
                checked(self, error, told_written, "ask", END, value, None)
                checked(self, InvalidProgram, told_turns, (NUM, value), None)
        for value in NO_VALUES:
            checked(self, InvalidValue, told_state, value, None, None)
            checked(self, InvalidValue, told_reading, value, None, None)
        for value in NO_VALUES + [NUM, read_tree("Row(1, 2)"), ("shape", "Row", (NUM, row_value((NUM,) * 40)))]:
            checked(self, InvalidValue, told_anew, "ask", value, None, None)
            checked(self, InvalidValue, told_written, "ask", value, None, None)
        for value in NO_NAMES:
            checked(self, InvalidName, told_anew, value, None, None, None)
            checked(self, InvalidName, told_written, value, None, None, None)
        for value in (None, (), [NUM], NUM, (NUM,) * 5, 1, "x", ((NUM,),), True):
            checked(self, InvalidProgram, told_turns, value, None)
        for value in NO_MOSTS:
            for model in (told_faults, told_rows, told_choices, told_first):
                checked(self, InvalidNumber, model, read_tree(A), value)
            checked(self, InvalidNumber, told_state, NUM, NUM, value)
            checked(self, InvalidNumber, told_reading, NUM, NUM, value)
            checked(self, InvalidNumber, told_anew, "ask", END, NUM, value)
            checked(self, InvalidNumber, told_written, "ask", END, NUM, value)
            checked(self, InvalidNumber, told_turns, (NUM,), value)
        self.assertEqual(told_turns((NUM,) * 4, 400), ("value", ("End", ())))


if __name__ == "__main__":
    unittest.main()
