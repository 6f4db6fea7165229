"""[41], [42], [80], [81], and of [3] what is said of heap runs: standings, steps, clearing, unloaded trees and ends."""

import unittest
from unittest import mock

from answerers import answerer_programs
from heapmodel import Full, HeapModel
from kinded import kinded_programs
from lasting import last_programs
from making import NO_PROGRAMS, NO_TREES, NUM, A, B, C, checked, programs, size_of, sized
from nearanswer import unloading
from nearanswer.collectors import copied_heap, let_go, rings_held, slid_heap, swept_heap
from nearanswer.errors import InvalidClearing, InvalidNumber, InvalidProgram, InvalidTree, TooMany
from nearanswer.heapruns import HeapRun, heap_run
from nearanswer.heaps import are_roots, is_heap, reached_from
from nearanswer.holders import rings_in
from nearanswer.runs import course_of, run_of, words_of
from nearanswer.texts import read_tree
from nearanswer.trees import is_tree, tree_depth, tree_size

CLEARINGS = ("copy", "slide", "sweep", "count", "rings")
NO_CLEARINGS = [None, "", "Copy", "copied", 1, True, ("copy",), ["copy"], b"copy", "none "]
# Goes deeper and deeper, and holds on to all of its frames.
DEEPER = read_tree("rec f x = 1 + f x in f 1")
LOOP = read_tree("rec f x = f x in f 1")


def some_programs(seed, many, depth=5):
    return programs(seed, many, depth) + kinded_programs(seed + 1, many // 4, 6) + answerer_programs() + [read_tree(text) for text in (A, B, C)]


def course(program, most):
    """The course of a program and the words of its steps, up to where it is too great or too deep, and how it goes on there."""
    while True:
        try:
            return course_of(program, most), words_of(program, most), len(words_of(program, most)) < most
        except TooMany:
            most -= 1


def shared(size):
    """A program that comes to a shape of just this size, in which all parts of a shape are the same one."""
    if size == 1:
        return NUM
    many = [many for many in (4, 3, 2, 1) if (size - 1) % many == 0][0]
    return ("let", "a", shared((size - 1) // many), ("shape", "Row", (("name", "a"),) * many))


def chain(depth):
    """The text of a program that comes to a shape of just this depth."""
    return "rec f x = match x {0 -> 0; _ -> One(f (x - 1))} in f " + str(depth - 1)


def shown_size(shown):
    return 1 + sum(shown_size(part) for part in shown[1]) if isinstance(shown, tuple) else 1


def shown_depth(shown):
    return 1 + max([shown_depth(part) for part in shown[1]], default=0) if isinstance(shown, tuple) else 1


def led(program, most=2000, clearing=None):
    run = HeapRun(program)
    while len(run) < most and run.step():
        if clearing:
            run.collect(clearing)
    return run


class HeapRunsTest(unittest.TestCase):

    def test_standings(self):
        """All standings are those of a model that lays cells one after another, with each clearing at each step."""
        words = set()
        for at, program in enumerate(some_programs(420, 250)):
            for clearing in ((None,) + CLEARINGS)[at % 2::2]:
                run, model = HeapRun(program), HeapModel(program)
                self.assertEqual(run.standing(), (("go", program, None), None, ()))
                for many in range(150):
                    self.assertEqual(len(run), many)
                    word = run.step()
                    self.assertEqual(word, model.step())
                    self.assertEqual(run.standing(), model.standing())
                    words.add(word)
                    if word is None:
                        break
                    if clearing:
                        run.collect(clearing)
                        model.doing, model.top, heap = run.standing()
                        model.heap = list(heap)
        self.assertEqual(words, {None, "look", "call", "again", "rec", "let", "match", "op", "plain", "deed"})

    def test_unloaded_standings_are_the_course(self):
        seen = set()
        for at, program in enumerate(some_programs(421, 220) + last_programs(422, 30, 5, 0.5)):
            programs_behind, words, is_whole = course(program, 120)
            run = HeapRun(program)
            place = 0
            while place < len(programs_behind):
                self.assertEqual(run.unloaded(), programs_behind[place])
                end = run.end()
                word = run.step()
                self.assertEqual(end is None, word is not None)
                if at % 3:
                    run.collect(CLEARINGS[at % 5])
                if word is None:
                    self.assertEqual((place, is_whole), (len(words), True))
                    self.assertEqual(run.end(), run_of(program, 120)[0])
                    seen.add(run.end()[0])
                    break
                if word == "again":
                    self.assertEqual(words[place:place + 2], ["call", "rec"][:len(words) - place])
                    place += 2
                elif word != "look":
                    self.assertEqual(words[place:place + 1], [word][:len(words) - place])
                    place += 1
        self.assertEqual(seen, {"value", "unanswered", "stuck"})

    def test_clearing_at_whatever_step(self):
        """A clearing leaves the unloaded tree, the words of all later steps and the end as they are."""
        for program in some_programs(423, 60):
            plain = led(program, 120)
            if len(plain) == 120:
                continue
            for at in range(0, len(plain), 5):
                for clearing in CLEARINGS:
                    run = led(program, at)
                    unloaded, many, roots, heap = run.unloaded(), run.cells(), run.roots(), run.standing()[2]
                    gone = run.collect(clearing)
                    self.assertEqual((run.unloaded(), len(run), gone), (unloaded, at, many - run.cells()))
                    self.check_cleared(run, clearing, heap, roots)
                    behind, words = HeapRun(program), []
                    while len(words) < len(plain):
                        words.append((behind if len(words) < at else run).step())
                    self.assertEqual((run.step(), run.end(), len(run)), (None, plain.end(), len(plain)))
                    self.assertEqual(words, self.words(program))

    def words(self, program):
        run = HeapRun(program)
        return list(iter(run.step, None))

    def check_cleared(self, run, clearing, heap, roots):
        told = {"copy": copied_heap, "slide": slid_heap, "sweep": swept_heap, "count": let_go, "rings": swept_heap}[clearing](heap, roots)
        if clearing in ("copy", "slide"):
            self.assertEqual((run.standing()[2], run.roots()), told)
        else:
            self.assertEqual((run.standing()[2], run.roots()), (told, roots))
        if clearing == "count":
            self.assertEqual([at for at, cell in enumerate(told) if cell], sorted(reached_from(heap, roots) + rings_held(heap, roots)))
        else:
            self.assertEqual(run.cells(), len(reached_from(heap, roots)))

    def test_heaps_and_roots(self):
        for program in some_programs(424, 60):
            run = HeapRun(program)
            has_rec = "rec" in str(program)
            for many in range(100):
                doing, top, heap = run.standing()
                self.assertTrue(is_heap(heap) and are_roots(heap, run.roots()))
                self.assertEqual(run.roots(), (doing[-1], top))
                self.assertEqual(run.cells(), len([cell for cell in heap if cell]))
                if not has_rec:
                    self.assertEqual((rings_in(heap), rings_held(heap, run.roots())), ([], []))
                if run.step() is None:
                    break

    def test_heap_run(self):
        for at, program in enumerate(some_programs(425, 150)):
            for clearing, every, most in (("none", 1, 60), ("copy", 1, 60), ("sweep", 3, 60), ("count", 2, 2000), ("slide", 7, 11), ("rings", 2000, 60))[at % 2::2]:
                run, greatest = HeapRun(program), 0
                try:
                    while len(run) < most and run.step():
                        greatest = max(greatest, run.cells())
                        if len(run) % every == 0 and clearing != "none":
                            run.collect(clearing)
                    told = (run.end() or ("more",), len(run), greatest)
                except TooMany:
                    checked(self, TooMany, heap_run, program, most, clearing, every)
                    continue
                self.assertEqual(heap_run(program, most, clearing, every), told)

    def test_edges_of_heap_run(self):
        self.assertEqual(heap_run(NUM, 0, "none", 1), (("more",), 0, 0))
        self.assertEqual(heap_run(NUM, 1, "none", 1), (("value", 1), 1, 0))
        self.assertEqual(heap_run(read_tree("fun x -> x"), 1, "copy", 2000), (("value", "fun"), 1, 1))
        self.assertEqual(heap_run(LOOP, 2000, "sweep", 1), (("more",), 2000, 5))
        self.assertEqual(heap_run(LOOP, 2000, "copy", 1)[:2], (("more",), 2000))
        checked(self, (TooMany, {"limit": 1000}), heap_run, LOOP, 2000, "sweep", 2000)
        checked(self, (TooMany, {"limit": 1000}), heap_run, LOOP, 2000, "none", 1)
        self.assertEqual(heap_run(LOOP, 2000, "rings", 100)[:2], (("more",), 2000))
        # With counts, the cells of a rec stay: those of each round are let go but for the ring of the rec itself.
        self.assertEqual(heap_run(LOOP, 2000, "count", 1)[:2], (("more",), 2000))
        inner = read_tree("rec g y = (rec f x = x in g y) in g 1")
        self.assertEqual(heap_run(inner, 2000, "rings", 1)[0], ("more",))
        self.assertEqual(heap_run(inner, 2000, "copy", 1)[0], ("more",))
        lost = read_tree("rec g y = (rec f x = f in g y) in g 1")
        checked(self, (TooMany, {"limit": 1000}), heap_run, lost, 2000, "count", 1)
        self.assertLess(heap_run(lost, 2000, "rings", 1)[2], 20)

    def test_words_and_cells_of_single_steps(self):
        """A program with a state of its own for each row of the steps."""
        run = HeapRun(read_tree("match Two(do ask 1, No()) {Two(a, b) -> a}"))
        words = [run.step() for _ in range(4)]
        self.assertEqual((words, run.roots(), run.step(), run.end()), (["look"] * 4, (("num", 1), 2), None, ("unanswered", "ask", 1)))
        heap = run.standing()[2]
        self.assertEqual(heap[1], (("parts", "Two", (("shape", "No", ()),)), (None, 0)))
        self.assertEqual(heap[2], (("do", "ask"), (1,)))
        run = led(read_tree("match Two(7, 1 < 2) {Two(a, b) -> fun c -> Three(a, b, c)}"))
        doing, top, heap = run.standing()
        self.assertEqual((doing, top), (("give", 9), None))
        self.assertEqual(heap[9], (("fun", "c", read_tree("Three(a, b, c)")), (8,)))
        self.assertEqual(heap[7:9], ((("bind", "a"), (("num", 7), None)), (("bind", "b"), (5, 7))))
        self.assertEqual(heap[5:7], ((("shape", "Yes"), ()), (("shape", "Two"), (("num", 7), 5))))

    def test_fits(self):
        """Rows of a match that do not fit for each reason, ahead of one that does."""
        rows = "{Two(a, b) -> 1; 7 -> 3; Two(Two(a)) -> 4; Two(a, b, c) -> 6; Two(a) -> a; _ -> 8}"
        for text, told in (("Two(9)", 9), ("Two(Two(1))", 4), ("7", 3), ("One(1)", 8), ("Two(1, 2)", 1), ("Two(1, 2, 3)", 6), ("Two()", 8), ("fun x -> x", 8), ("8", 8), ("Three(1)", 8)):
            self.assertEqual(led(read_tree("match " + text + " " + rows)).end(), ("value", told))

    def test_rests(self):
        """A rest is gone on with never, once, later and twice."""
        for text, end in (("answer do ask 1 + 2 {plain x -> x; ask x k -> 5}", 5), ("answer do ask 1 + 2 {plain x -> x; ask x k -> k 5}", 7),
                          ("(answer do ask 1 + 2 {plain x -> x; ask x k -> k}) 4", 6), ("answer do ask 1 + 2 {plain x -> x; ask x k -> k 5 + k 6}", 15),
                          ("let k = answer 2 * do ask 1 {plain x -> x; ask x k -> k} in k 1 + k (k 2)", 10),
                          ("answer answer do ask 1 + do tell 2 {plain x -> x; ask x k -> k 10 + k 20} {plain x -> x; tell y l -> l y + l 1}", 132)):
            for clearing in ("none",) + CLEARINGS:
                self.assertEqual(heap_run(read_tree(text), 400, clearing, 1)[0], ("value", end))

    def test_unloaded_values(self):
        again = led(read_tree("let y = 3 in rec f x = f (x + y) in f"))
        made = read_tree("f (x + 3)")
        self.assertEqual(again.unloaded(), ("fun", "x", ("rec", "f", "x", made, made)))
        self.assertEqual(again.end(), ("value", "fun"))
        rest = led(read_tree("let y = 3 in answer Two(y, do ask 1 + y) {plain z -> z + y; ask x k -> k}"))
        self.assertEqual(rest.unloaded(), read_tree("fun it -> answer Two(3, it + 3) {plain z -> z + 3; ask x k -> k}"))
        self.assertEqual(rest.end(), ("value", "fun"))
        both = led(read_tree("answer do tell 1 {plain x -> x; tell x k -> answer k (do ask 2) {plain y -> y; ask y l -> Two(k, l)}}"))
        rest = read_tree("fun it -> answer it {plain x -> x; tell x k -> answer k (do ask 2) {plain y -> y; ask y l -> Two(k, l)}}")
        inner = ("answer", ("call", rest, ("name", "it")), ("y", ("name", "y")), (("ask", "y", "l", ("shape", "Two", (rest, ("name", "l")))),))
        self.assertEqual(both.unloaded(), ("shape", "Two", (rest, ("fun", "it", inner))))
        self.assertEqual(both.end(), ("value", ("Two", ("fun", "fun"))))

    def test_great_values(self):
        for size in (2999, 3000):
            run = led(shared(size))
            self.assertEqual((size_of(run.unloaded()), is_tree(run.unloaded())), (size, True))
            self.assertEqual(run.end()[0], "value")
            self.assertEqual(heap_run(shared(size), 2000, "none", 1)[0], run.end())
        for size in (3001, 3002, 4 ** 30 + 1, (4 ** 40 - 1) // 3):
            run = led(shared(size))
            for action in (run.end, run.unloaded):
                checked(self, (TooMany, {"limit": 3000}), action)
            checked(self, (TooMany, {"limit": 3000}), heap_run, shared(size), 2000, "copy", 1)
        unanswered = led(("do", "ask", shared(3000)))
        self.assertEqual(unanswered.end()[:2], ("unanswered", "ask"))
        checked(self, (TooMany, {"limit": 3000}), unanswered.unloaded)
        checked(self, (TooMany, {"limit": 3000}), led(("do", "ask", shared(3001))).end)
        # Functions are shown as one part, however great they are.
        functions = led(read_tree("let f = fun x -> Row(x, x, x) in let a = Row(f, f, f, f) in let b = Row(a, a, a, a) in let c = Row(b, b, b, b) in let d = Row(c, c, c, c) in Row(d, d, d)"))
        self.assertEqual(functions.end()[0], "value")
        checked(self, (TooMany, {"limit": 3000}), functions.unloaded)

    def test_great_patterns(self):
        """Patterns count, too: with them the unloaded tree is as great as a tree may be, or greater."""
        pattern = ("shapeis", "Row", (("shapeis", "Row", (("any",),) * 4),) * 4)
        match = ("match", NUM, ((pattern, NUM),))
        body = ("shape", "Row", (match,) * 4)
        self.assertEqual(size_of(body), 97)
        y = ("name", "y")
        just = ("let", "y", sized(967), ("shape", "Row", (y, y, y, ("fun", "x", body))))
        run = led(just, 2000, "sweep")
        self.assertEqual((size_of(run.unloaded()), tree_size(run.unloaded()), run.end()[0]), (3000, 3000, "value"))
        run = led(("shape", "One", (just,)), 2000, "sweep")
        self.assertEqual(run.end()[0], "value")
        checked(self, (TooMany, {"limit": 3000}), run.unloaded)
        self.assertEqual(HeapRun(match).unloaded(), match)

    def test_counts_of_what_is_unloaded(self):
        """With bounds that are just as great as what comes, it comes; with lower ones, it does not."""
        deepest = read_tree("answer do tell (do tell (do ask 1)) {plain x -> x; ask x k -> k}")
        for program in some_programs(426, 90, 4) + [deepest]:
            run = HeapRun(program)
            while len(run) < 120:
                self.check_bounds(run.unloaded, tree_size, tree_depth)
                if run.step() is None:
                    if run.end()[0] != "stuck":
                        self.check_bounds(run.end, lambda end: shown_size(end[-1]), lambda end: shown_depth(end[-1]))
                    break

    def check_bounds(self, action, size_told, depth_told):
        told = action()
        size, depth = size_told(told), depth_told(told)
        for most, deep, is_let in ((size, depth, True), (size - 1, depth, False), (size, depth - 1, False)):
            with mock.patch.object(unloading, "MOST_SIZE", most), mock.patch.object(unloading, "MOST_DEPTH", deep):
                if is_let:
                    self.assertEqual(action(), told)
                else:
                    checked(self, (TooMany, {"limit": most}), action)

    def test_deep_values(self):
        run = led(read_tree(chain(120)))
        self.assertEqual((tree_depth(run.unloaded()), run.end()[0]), (120, "value"))
        self.assertEqual(heap_run(read_tree(chain(120)), 2000, "copy", 9)[0], run.end())
        run = HeapRun(read_tree(chain(125)))
        raised = 0
        while run.step():
            try:
                run.unloaded()
            except TooMany as error:
                self.assertEqual(error.limit, 3000)
                raised += 1
        self.assertGreater(raised, 5)
        for action in (run.end, run.unloaded):
            checked(self, (TooMany, {"limit": 3000}), action)
        checked(self, (TooMany, {"limit": 3000}), led(read_tree(chain(121))).end)
        checked(self, (TooMany, {"limit": 3000}), led(read_tree("do ask (" + chain(121) + ")")).end)
        unanswered = led(read_tree("do ask (" + chain(120) + ")"))
        self.assertEqual(unanswered.end()[:2], ("unanswered", "ask"))
        checked(self, (TooMany, {"limit": 3000}), unanswered.unloaded)
        # A rest with many frames within it.
        text = "rec f x = match x {0 -> do ask 1; _ -> 1 + f (x - 1)} in answer f MANY {plain x -> x; ask x k -> k}"
        held = led(read_tree(text.replace("MANY", "117")), 2000, "sweep")
        self.assertEqual((tree_depth(held.unloaded()), held.end()), (120, ("value", "fun")))
        held = led(read_tree(text.replace("MANY", "118")), 2000, "copy")
        self.assertEqual(held.end(), ("value", "fun"))
        checked(self, (TooMany, {"limit": 3000}), held.unloaded)

    def test_full_heaps(self):
        run = led(DEEPER, 0)
        with self.assertRaises(TooMany) as caught:
            while run.step():
                pass
        self.assertEqual(caught.exception.limit, 1000)
        before = run.standing(), len(run), run.cells(), run.end()
        self.assertEqual(len(before[0][2]), 1000)
        for _ in range(2):
            checked(self, (TooMany, {"limit": 1000}), run.step)
            self.assertEqual((run.standing(), len(run), run.cells(), run.end()), before)
        many = run.collect("sweep")
        self.assertGreater(many, 0)
        self.assertEqual(run.step(), HeapModelAt(before[0]).step())
        self.assertLessEqual(len(run.standing()[2]), 1000)

    def test_full_heaps_and_steps_with_many_cells(self):
        """A deed and a rest need many places at once; if they are not there, nothing is done."""
        for text in ("rec f x = match x {0 -> do ask 1; _ -> 1 + f (x - 1)} in answer f MANY {plain x -> x; ask x k -> k x}",
                     "rec f x = match x {0 -> 0; _ -> 1 + f (x - 1)} in let k = answer FRAMES {plain x -> x; ask x k -> k} in k (f MANY)"):
            text = text.replace("FRAMES", "1 + (" * 25 + "do ask 1" + ")" * 25)
            ends = set()
            for many in (40, 80, 91, 95, 97, 100, 103, 106, 109, 112, 120, 150):
                program = read_tree(text.replace("MANY", str(many)))
                run, model = HeapRun(program), HeapModel(program)
                while True:
                    before = run.standing(), len(run)
                    try:
                        word = run.step()
                    except TooMany:
                        self.assertRaises(Full, model.step)
                        self.assertEqual((run.standing(), len(run)), before)
                        ends.add((before[0][0][0], len(before[0][2]) < 1000))
                        break
                    self.assertEqual((word, run.standing()), (model.step(), model.standing()))
                    if word is None:
                        ends.add(None)
                        break
            self.assertTrue({None, ("give", True)} <= ends, ends)

    def test_steps_at_an_end(self):
        for text in (A, "1 2", "do ask 1", "match 1 {0 -> 1}", "1 + No()", "999999999999 * 2", "No() 1", "match fun x -> x {0 -> 1}", "(fun x -> x) < 1"):
            run = led(read_tree(text))
            before = run.standing(), len(run), run.end()
            self.assertIsNotNone(before[2])
            self.assertEqual((run.step(), run.standing(), len(run), run.end()), (None,) + before)
            self.assertEqual(run.end(), run_of(read_tree(text), 400)[0])

    def test_wrong_arguments(self):
        for value in NO_TREES:
            checked(self, InvalidTree, HeapRun, value)
            checked(self, InvalidTree, heap_run, value, None, None, None)
        for value in NO_PROGRAMS:
            checked(self, InvalidProgram, HeapRun, value)
            checked(self, InvalidProgram, heap_run, value, None, None, None)
        run = HeapRun(read_tree(A))
        for value in NO_CLEARINGS:
            checked(self, InvalidClearing, run.collect, value)
            checked(self, InvalidClearing, heap_run, NUM, 9, value, None)
        checked(self, InvalidClearing, run.collect, "none")
        self.assertEqual(run.standing(), HeapRun(read_tree(A)).standing())
        for value in [2001, -1, True, False, None, "9", 9.0, (9,), 10 ** 100]:
            checked(self, InvalidNumber, heap_run, NUM, value, None, None)
            checked(self, InvalidNumber, heap_run, NUM, 9, "none", value)
        checked(self, InvalidNumber, heap_run, NUM, 9, "none", 0)
        self.assertEqual(heap_run(NUM, 2000, "none", 2000), (("value", 1), 1, 0))


class HeapModelAt(HeapModel):

    def __init__(self, standing):
        HeapModel.__init__(self, None)
        self.doing, self.top, heap = standing
        self.heap = list(heap)
        self.most = 2000


if __name__ == "__main__":
    unittest.main()
