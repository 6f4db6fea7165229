"""[2]: conventions that hold for all functions: any values are taken, in order, and nothing is modified."""

import copy
import importlib
import inspect
import random
import unittest

from kinded import BOOK, N, OPT, kinded_programs
from making import ANY, NO_PROGRAMS, NO_TREES, NUM, A, B, C, X, programs, trees
from nearanswer import errors
from nearanswer.carried import carried_of
from nearanswer.flatcode import code_of
from nearanswer.flatforms import flat_form
from nearanswer.heapruns import HeapRun
from nearanswer.lifebenches import Bench
from nearanswer.lifevalues import Code
from nearanswer.stocks import cover_paper
from nearanswer.testtrees import test_tree as tree_for
from nearanswer.texts import read_tree
from test_books import KINDINGS, NO_BOOKS, NO_KINDINGS
from test_flatcode import NO_CODES
from test_heaps import CELL, HEAPS, NO_HEAPS
from test_lifebenches import SOME_STATES
from test_lifemoves import MOVES, NO_MOVES, NO_STATES
from test_refusals import NO_PATHS
from test_shownalike import ENGINES
from test_stocks import NO_STOCKS, STOCKS
from test_testtrees import NO_ROWS, rows_of
from test_yields import NO_ANSWERS

INTERFACE = {
    "trees": "is_tree(value) is_pattern(value) tree_size(tree) tree_depth(tree) parts_of(tree) part_at(tree,path) "
             "put_at(tree,path,other) all_paths(tree)",
    "names": "free_names(tree) bound_names(tree) is_program(value) put_for(tree,name,value) with_plain_names(tree) are_alike(one,other)",
    "texts": "tree_text(tree) tokens_of(text) read_tree(text)",
    "rewriting": "is_value(value) shown_value(value) next_place(program) step_of(program) answerer_for(program)",
    "runs": "run_of(program,most) course_of(program,most) words_of(program,most) deeds_of(program,most)",
    "books": "is_book(value) is_kinding(book,value) plain_kinding(book,kinding) is_instance(book,narrow,wide) "
             "common_kinding(book,kinding,wide)",
    "kinds": "widest(book,program) has_kinding(book,program,kinding) deeds_left(book,program)",
    "refusals": "kinded_at(book,program,paths) refusal_lot(book,program) is_refusal_lot(book,program,value)",
    "testtrees": "are_rows(value) first_row(rows,value) is_test_tree(rows,plan) test_tree(rows)",
    "stocks": "is_stock(value) is_of_stock(stock,value) value_left(stock,rows,index) idle_rows(stock,rows) cover_paper(stock,rows,index) "
              "is_cover_paper(stock,rows,index,paper)",
    "flatforms": "is_flat(tree) flat_form(tree)",
    "carried": "is_carried(value) carried_of(flat) carried_back(carried)",
    "carriedruns": "run_carried(carried,most) words_carried(carried,most)",
    "bytrees": "deed_tag(name) tag_deed(tag) is_without_deeds(tree) by_trees(program) end_told(value)",
    "bynext": "by_next(program)",
    "shownalike": "shown_by(program,engine,most) are_shown_alike(program,engine,other,most)",
    "talks": "talk_of(program,answers,most) program_behind(program,answers,most) deed_tree(program,menu,deep,most)",
    "flatcode": "is_code(value) code_of(program) program_of_code(code)",
    "looking": "look_at(code) is_sound(code)",
    "machine": "run_code(code,most,way) goings_of(code,most) copies_needed(code,most) pieces_of(code,most)",
    "restuses": "uses_of(body,rest) tree_ends(body) rest_use(body,rest) row_uses(tree) use_paper(body,rest) is_use_paper(body,rest,value)",
    "handedruns": "handed_run(program,most) answer_words(program,most)",
    "handedtrees": "answered_deeds(tree) goes_on_last(tree) handed_tree(program)",
    "yields": "yield_of(program,most) asked(program,answers,most)",
    "heaps": "is_heap(value) are_roots(heap,value) reached_from(heap,roots) counts_in(heap,roots)",
    "collectors": "copied_heap(heap,roots) slid_heap(heap,roots) swept_heap(heap,roots) let_go(heap,roots) rings_held(heap,roots)",
    "holders": "rings_in(heap) holders_of(heap,roots,address) held_by(heap,roots,address) way_to(heap,roots,address)",
    "heapruns": "heap_run(program,most,clearing,every)",
    "quiet": "is_sure(tree) is_quiet(tree) is_silent(tree,deed) open_place(tree) fit_seen(pattern,tree)",
    "betterings": "is_bettering(tree,value) bettered(tree,bettering) all_betterings(tree)",
    "betterpapers": "is_better_paper(tree,value) better_by(tree,paper) made_better(tree,most)",
    "library": "row_value(values) row_items(value) with_state(value,program) with_faults(program) with_rows(program) with_choices(program) with_first(program) "
               "with_turns(programs) with_reading(value,program) written_down(deed,program) done_anew(deed,row,program)",
    "plainmodels": "told_state(value,program,most) told_faults(program,most) told_rows(program,most) told_choices(program,most) told_first(program,most) "
                   "told_turns(programs,most) told_reading(value,program,most) told_anew(deed,row,program,most) told_written(deed,row,program,most)",
    "lifemoves": "is_stop(value) is_state(value) is_move(value) is_play(value) next_word(program) answerers_around(program) stops_holding(state) moved(state,move) "
                 "all_moved(state,play)",
    "lifeprofiles": "profile(program,most) places_worked(program,most)",
    "lifetexts": "state_picture(state) read_picture(value)",
}
# The methods of each class, with their arguments.
CLASSES = {
    ("heapruns", "HeapRun"): "__init__(program) step() collect(clearing) standing() cells() end() unloaded() roots() __len__()",
    ("lifevalues", "Code"): "__init__(program) __call__(other) __add__(other) __sub__(other) __mul__(other) __iadd__(other) __or__(other) __rshift__(other) __invert__() "
                            "__getitem__(at) __contains__(x) __len__() __bool__() __str__() __iter__() __eq__(other)",
    ("lifebenches", "Bench"): "__init__(state) do(move) __iadd__(other) undo() redo() attempt(action) __getitem__(at) __contains__(x) __len__() __bool__() __iter__() "
                              "__eq__(other) lines()",
}
END = ("shape", "End", ())
ROWS = [rows_of("Two(0, _)", "Two(x, 1)", "_"), rows_of("Yes()", "No()", "x"), (ANY,)]
FLAT = [flat_form(read_tree(text)) for text in (A, B, C)]
CODES = [code_of(read_tree(text)) for text in (A, B, C)]

GOOD = {
    "tree": trees(90, 8, 3) + programs(91, 4, 3), "program": programs(92, 6, 3) + kinded_programs(93, 6, 3),
    "value": [NUM, ("fun", "x", X), ("shape", "Two", (NUM, NUM)), ((), (0,)), ("row", 0)], "path": [(), (0,), (1,), (0, 0)],
    "name": ["x", "ask"], "text": [A, B, C, "", "1 +", "x # y"], "most": [0, 3, 9], "book": [BOOK, ((), ())],
    "kinding": KINDINGS + [(OPT, ((), None)), (N, (("ask",), 0))], "paths": [(), ((),), ((), (0,))], "rows": ROWS, "stock": STOCKS,
    "plan": [tree_for(rows) for rows in ROWS], "index": [0, 1, 3], "paper": [cover_paper(STOCKS[0], ROWS[1], 3), ("row", 0), ("none",)],
    "flat": FLAT, "carried": [carried_of(flat) for flat in FLAT], "tag": ["Ask", "X", "Let"], "engine": list(ENGINES), "answers": [(), (NUM,), (NUM, NUM)],
    "menu": [(NUM,), (NUM, ("shape", "No", ()))], "deep": [0, 1, 2], "code": CODES, "way": ["copied", "moved", "needed"],
    "body": trees(97, 6, 3) + [read_tree("k 1"), read_tree("k (k 1)"), read_tree("match x {0 -> k 1; _ -> k 2}")], "rest": ["k", "x"],
    "pairs": [(), (("ask", NUM),), (("ask", NUM), ("pick", NUM))], "heap": HEAPS[:3] + HEAPS[5:9] + [(CELL, None, (("b",), (0,)))], "roots": [(), (0,), (None, ("num", 1))],
}
GOOD.update({
    "address": [0, 1, 2], "clearing": ["copy", "slide", "sweep", "count", "rings", "none"], "every": [1, 7, 2000], "pattern": [ANY, ("bind", "x"), ("shapeis", "Two", (("numis", 1), ANY))],
    "bettering": [("fold", (), ()), ("call", (), ()), ("let", (0,), ()), ("idle", (), (0,)), ("share", (), ("z", ((0,), (1,))))], "steps": [(), (("fold", (), ()),), (("let", (), ()), ("fold", (), ()))],
    "values": [(), (NUM,), (NUM, ("shape", "No", ()))], "programs": [(read_tree(A),), (NUM, read_tree(B), NUM)], "row": [END, ("shape", "Row", (NUM, END))],
    "state": SOME_STATES, "move": MOVES, "play": [(), (("step",),), (("plain",), ("go", 3))],
})
ALIKE = {"other": "tree", "one": "tree", "narrow": "kinding", "wide": "kinding", "deed": "name"}
ALIKE_IN = {"are_shown_alike": {"other": "engine"}, "asked": {"answers": "pairs"}, "better_by": {"paper": "steps"}, "is_better_paper": {"value": "steps"}, "is_bettering": {"value": "bettering"},
            "is_stop": {"value": "state"}, "is_state": {"value": "state"}, "is_move": {"value": "move"}, "is_play": {"value": "play"}, "read_picture": {"value": "text"}}
WRONG = (NO_TREES + NO_PROGRAMS + NO_BOOKS + NO_KINDINGS + NO_PATHS + NO_STOCKS + NO_ROWS + NO_CODES + NO_HEAPS + NO_ANSWERS
         + NO_STATES + NO_MOVES + [("tell", Code(NUM)), Code(NUM), Bench(SOME_STATES[0]), HeapRun(NUM), (Code(NUM),), ("num", HeapRun(NUM)), ("step", Bench(SOME_STATES[0]))]
         + [errors.NearError("x"), errors.TooMany(1), -1, 10 ** 119, "\n", ("test", (), (), ()), ("split", (), ()), 7])


def functions():
    for module, told in INTERFACE.items():
        for one in told.split():
            name, arguments = one[:-1].split("(")
            yield module, getattr(importlib.import_module("nearanswer." + module), name), arguments.split(",")


def kinded_functions():
    """The functions, and what kinds of values their arguments must be."""
    for _, function, arguments in functions():
        yield function, [ALIKE_IN.get(function.__name__, {}).get(argument, argument) for argument in arguments]


class Bender:

    def __init__(self, seed):
        self.chance = random.Random(seed)

    def good(self, argument):
        return self.chance.choice(GOOD[ALIKE.get(argument, argument)])

    def wrong(self):
        return self.chance.choice(WRONG)

    def bent(self, value):
        """The value with something in it changed into something wrong, or left out, or doubled."""
        if not isinstance(value, (tuple, list)) or not value or self.chance.random() < 0.15:
            return self.chance.choice([self.wrong(), True, None, [], (), "x", 0, -1, "Two", ("num", 1), value, [value], (value,)])
        at = self.chance.randrange(len(value))
        roll = self.chance.random()
        if roll < 0.08:
            return list(value)
        if roll < 0.14:
            return value[:at] + value[at + 1:]
        if roll < 0.2:
            return value[:at] + value[at:at + 1] + value[at:]
        return value[:at] + type(value)([self.bent(value[at])]) + value[at + 1:]


class ConventionsTest(unittest.TestCase):

    def test_interface(self):
        for module, function, arguments in functions():
            self.assertEqual(list(inspect.signature(function).parameters), arguments, function)
            self.assertEqual(function.__module__, "nearanswer." + module)
            self.assertTrue(function.__doc__)

    def test_classes(self):
        for (module, name), told in CLASSES.items():
            one = getattr(importlib.import_module("nearanswer." + module), name)
            self.assertEqual(one.__module__, "nearanswer." + module)
            for method in told.split():
                word, arguments = method[:-1].split("(")
                self.assertIn(word, vars(one))
                self.assertEqual(list(inspect.signature(vars(one)[word]).parameters)[1:], arguments.split(",") if arguments else [], (name, word))

    def test_any_values_are_taken(self):
        bender = Bender(94)
        for function, arguments in kinded_functions():
            for _ in range(250):
                values = []
                for argument in arguments:
                    value = bender.good(argument)
                    roll = bender.chance.random()
                    if roll < 0.15:
                        value = bender.wrong()
                    elif roll < 0.7:
                        value = bender.bent(value)
                    values.append(value)
                self.check_call(function, values)

    def check_call(self, function, values):
        before = repr(values)
        told = self.outcome(function, values)
        again = self.outcome(function, values)
        self.assertEqual(told, again)
        self.assertEqual(repr(values), before)

    def outcome(self, function, values):
        try:
            return function(*values)
        except errors.NearError as error:
            return (type(error), vars(error))

    def test_the_first_wrong_argument_tells_the_error(self):
        """With all arguments behind it wrong, too, a wrong argument raises what it raises with good ones behind it."""
        bender = Bender(95)
        for function, arguments in kinded_functions():
            for at in range(len(arguments) - 1):
                for _ in range(60):
                    ahead = [bender.good(argument) for argument in arguments[:at]]
                    wrong = bender.bent(bender.good(arguments[at]))
                    behind = [bender.good(argument) for argument in arguments[at + 1:]]
                    told = self.outcome(function, ahead + [wrong] + [errors.NearError("wrong") for _ in behind])
                    good = self.outcome(function, ahead + [wrong] + behind)
                    # A heap without cells is none of the wrong ones, but has no address.
                    if self.is_wrong(good) and good[0] not in (errors.TooMany, errors.InvalidAddress) and self.raised_at(function, ahead, wrong, behind, bender, arguments, at):
                        self.assertEqual(told, good, (function, ahead, wrong))

    def raised_at(self, function, ahead, wrong, behind, bender, arguments, at):
        """Whether it is this argument that is wrong: no values behind it help."""
        for _ in range(6):
            more = [bender.good(argument) for argument in arguments[at + 1:]]
            if not self.is_wrong(self.outcome(function, ahead + [wrong] + more)):
                return False
        fitting = [bender.good(argument) for argument in arguments[at:]]
        return not self.is_wrong(self.outcome(function, ahead + fitting))

    def is_wrong(self, told):
        return isinstance(told, tuple) and len(told) == 2 and isinstance(told[0], type)

    def test_lists_are_new(self):
        bender = Bender(96)
        for function, arguments in kinded_functions():
            for _ in range(30):
                values = [bender.good(argument) for argument in arguments]
                told = self.outcome(function, values)
                if isinstance(told, list):
                    kept = copy.deepcopy(told)
                    told.append("more")
                    self.assertEqual(self.outcome(function, values), kept)
