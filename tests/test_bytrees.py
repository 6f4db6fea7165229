"""[23], [24], [66]: tags of deeds, programs led by trees of deeds, and ends told."""

import unittest

from answerers import TOLD, answerer_programs
from kinded import kinded_programs
from ledtexts import TreeTexts
from making import BARRED, NO_NAMES, NO_PROGRAMS, NO_TREES, NUM, X, Maker, checked, programs, size_of
from nearanswer.bytrees import by_trees, deed_tag, end_told, is_without_deeds, tag_deed
from nearanswer.errors import InvalidName, InvalidProgram, InvalidTree, TooMany
from nearanswer.names import bound_names, is_program, with_plain_names
from nearanswer.running import Course
from nearanswer.texts import read_tree, tree_text
from nearanswer.trees import is_tree, tree_depth, tree_size

ROWS = tuple((deed, "e", "k", NUM) for deed in ("a", "b", "c", "d", "e", "f"))


def answerer(many):
    return ("answer", NUM, ("x", X), ROWS[:many])


def some_programs():
    return programs(220, 250, 4) + kinded_programs(221, 100, 4) + answerer_programs()


def depth_by_hand(tree):
    inner = [part for part in tree if isinstance(part, tuple)]
    while inner and not all(is_node(part) for part in inner):
        inner = [one for part in inner for one in ([part] if is_node(part) else part) if isinstance(one, tuple)]
    return 1 + max((depth_by_hand(part) for part in inner), default=0)


def is_node(part):
    return len(part) > 0 and part[0] in ("num", "name", "fun", "call", "let", "rec", "shape", "match", "op", "do", "answer", "any", "bind",
                                         "numis", "shapeis")


class Chain:
    """Programs of which one after another is led to a greater or a deeper one."""

    def wide(self, many):
        tree = NUM
        for _ in range(many):
            tree = ("call", ("fun", "x", tree), NUM) if _ % 2 else ("shape", "Row", (tree, NUM, NUM, NUM))
        return tree

    def deep(self, many):
        tree = NUM
        for _ in range(many):
            tree = ("fun", "x", tree)
        return tree


class LedTest:
    """What both ways of leading have in common; `led` and `texts` tell which one it is."""

    def test_texts(self):
        for program in some_programs():
            told = with_plain_names_of(self.texts().program(program))
            if told is None:
                checked(self, InvalidTree, self.led, program)
            else:
                self.assertEqual(self.led(program), told)

    def test_led_programs(self):
        for program in some_programs():
            try:
                led = self.led(program)
            except InvalidTree:
                continue
            self.assertIs(is_program(led), True)
            self.assertIs(is_without_deeds(led), True)
            self.assertEqual(with_plain_names(led), led)

    def test_new_names_are_unlike_those_of_the_program(self):
        """Programs with the very names of the texts of [24] and [25], and with the first plain names."""
        for names in (("after", "go", "m", "f", "x", "d", "p", "q", "r", "c", "e", "k"), ("a", "b", "c", "d", "e", "f", "g", "h", "i", "j")):
            maker = Maker(222, names=names)
            for _ in range(150):
                program = maker.tree(3, ())
                told = with_plain_names_of(self.texts().program(program))
                if told is not None:
                    self.assertEqual(self.led(program), told)

    def test_alike_programs(self):
        for program in some_programs()[:100]:
            try:
                led = self.led(program)
            except InvalidTree:
                continue
            self.assertEqual(self.led(with_plain_names(program)), led)

    def test_answerers_of_5_and_6_rows(self):
        self.assertIs(is_program(self.led(answerer(5))), True)
        inner = ("fun", "y", ("op", "+", answerer(5), answerer(6)))
        for program in (answerer(6), inner, ("answer", answerer(6), ("x", X), ())):
            checked(self, (TooMany, {"limit": 5}), self.led, program)
        checked(self, InvalidProgram, self.led, ("op", "+", answerer(6), X))
        checked(self, InvalidTree, self.led, ("answer", NUM, ("x", X), ROWS + (("g", "e", "k", NUM),)))

    def test_too_great_and_too_deep(self):
        """At the bounds, what is told by texts is measured by hand; TooMany stands ahead of InvalidTree."""
        for make, measured in ((Chain().wide, tree_size), (Chain().deep, tree_depth)):
            last = None
            for many in range(1, 119):
                program = make(many)
                told = self.texts().program(program)
                fits = size_of(told) <= 3000 and depth_by_hand(told) <= 120
                if fits:
                    self.assertEqual(measured(self.led(program)), {tree_size: size_of, tree_depth: depth_by_hand}[measured](told))
                else:
                    checked(self, InvalidTree, self.led, program)
                    checked(self, (TooMany, {"limit": 5}), self.led, ("op", "+", program, answerer(6)))
                if last is not None and last != fits:
                    break
                last = fits
            self.assertIs(fits, False)
            self.assertIs(last, True)
        just = self.just_let()
        self.assertEqual((tree_size(self.led(just)), is_tree(just)), (3000, True))
        checked(self, InvalidTree, self.led, ("do", "ask", just))

    def just_let(self):
        """A program that is led to one of a size of 3000: numbers in it have been replaced by what makes it so great."""
        base = ("shape", "Four", (NUM,) * 4)
        least = tree_size(self.led(NUM))
        texts = ("1 + 1", "One(1)", "do ask 1", "match 1 {_ -> 1; _ -> 1}", "answer 1 {plain x -> 1}", "rec f x = 1 in 1", "fun x -> 1")
        steps = {text: tree_size(self.led(read_tree(text))) - least for text in texts}
        ways = {tree_size(self.led(base)): ()}
        for size in range(3000):
            if size in ways:
                for text, step in steps.items():
                    ways.setdefault(size + step, ways[size] + (text,))
        program = base
        for text in ways[3000]:
            program = replaced_leaf(program, read_tree(text))
        return program

    def test_wrong_arguments(self):
        for value in NO_TREES:
            checked(self, InvalidTree, self.led, value)
        for value in NO_PROGRAMS:
            checked(self, InvalidProgram, self.led, value)

    def test_ends(self):
        """The led program shows what the program shows; no do is left, and it is stuck for the same reason."""
        shown = 0
        for text, end in TOLD:
            course = Course(self.led(read_tree(text)))
            try:
                course.lead(3000)
            except TooMany:
                continue
            told = course.shown_ending()
            self.assertEqual(end_told(told), end, text)
            if end[0] == "value":
                self.assertEqual(told, ("value", ("Done", (end[1],))))
            elif end[0] == "unanswered":
                self.assertEqual(told, ("value", ("Did", ((end[1].capitalize(), ()), end[2], "fun"))))
            else:
                self.assertEqual(told, end)
            shown += 1
        self.assertGreater(shown, 20)


def replaced_leaf(tree, leaf):
    """The tree with another one in the place of the first number at the least depth."""
    waiting = [((), tree)]
    while waiting:
        path, one = waiting.pop(0)
        if one == NUM:
            return put(tree, path, leaf)
        waiting.extend([(path + (at,), part) for at, part in enumerate(one) if isinstance(part, tuple)])
    raise AssertionError("no number stands in the tree")


def put(tree, path, leaf):
    if not path:
        return leaf
    return tree[:path[0]] + (put(tree[path[0]], path[1:], leaf),) + tree[path[0] + 1:]


def with_plain_names_of(tree):
    """The tree with plain names, None if it is none."""
    return with_plain_names(tree) if is_tree(tree) else None


def deep_shown(depth, inner=1):
    """The shown form of a value of a depth, an inner one counted as 1."""
    for _ in range(depth - 1):
        inner = ("One", (inner,))
    return inner


def wide_shown(size):
    """The shown form of a value of a size."""
    if size == 1:
        return 1
    cuts = [(size - 1) * share // 4 for share in range(5)]
    return ("Row", tuple(wide_shown(high - low) for low, high in zip(cuts, cuts[1:]) if high > low))


class ByTreesTest(LedTest, unittest.TestCase):

    texts = TreeTexts

    def led(self, program):
        return by_trees(program)

    def test_small_texts(self):
        head = "rec a b = fun c -> match b {Done(d) -> c d; Did(e, f, g) -> Did(e, f, fun h -> a (g h) c)} in "
        for text, led in [
                ("No()", "Done(No())"), ("fun x -> x", "Done(fun i -> Done(i))"), ("1 2", "a Done(1) (fun i -> a Done(2) (fun j -> i j))"),
                ("let x = 1 in x", "a Done(1) (fun i -> Done(i))"), ("rec f x = f in 1", "rec i j = Done(i) in Done(1)"),
                ("match 1 {Two(x, _) -> x; _ -> 2}", "a Done(1) (fun i -> match i {Two(j, _) -> Done(j); _ -> Done(2)})"),
                ("1 < 2", "a Done(1) (fun i -> a Done(2) (fun j -> Done(i < j)))"),
                ("do ask 5", "a Done(5) (fun i -> Did(Ask(), i, fun j -> Done(j)))"),
                ("answer 1 {plain x -> x}", "rec i j = match j {Done(k) -> Done(k); Did(l, m, n) -> match l {_ -> Did(l, m, fun o -> i (n o))}} in i Done(1)")]:
            self.assertEqual(tree_text(by_trees(read_tree(text))), head + led)
        self.assertEqual(bound_names(by_trees(read_tree("Three(1, 2, 3)")))[8:], ["i", "j", "k"])

    def test_tags(self):
        for name, tag in [("ask", "Ask"), ("a", "A"), ("done", "Done"), ("abcdefgh", "Abcdefgh"), ("zz", "Zz"), ("fund", "Fund"), ("i", "I")]:
            self.assertEqual(deed_tag(name), tag)
            self.assertEqual(tag_deed(tag), name)
        for value in NO_NAMES:
            checked(self, InvalidName, deed_tag, value)
        for word in BARRED:
            checked(self, InvalidName, tag_deed, word.capitalize())
        for value in [None, 1, "", "ask", "ASk", "Abcdefghi", "A1", ("Ask",), ["Ask"], True, "Ask ", "ask", "_"]:
            checked(self, InvalidName, tag_deed, value)

    def test_without_deeds(self):
        for text, told in [("1", True), ("do ask 1", False), ("answer 1 {plain x -> x}", False), ("fun x -> do ask x", False),
                           ("match 1 {0 -> 1; _ -> fun x -> answer 1 {plain x -> x}}", False), ("rec f x = f x in f 1", True), ("x y", True)]:
            self.assertIs(is_without_deeds(read_tree(text)), told)
        for value in NO_TREES:
            checked(self, InvalidTree, is_without_deeds, value)

    def test_ends_told(self):
        pair = ("Two", (1, ("No", ())))
        for shown in (5, -10 ** 12, "fun", ("No", ()), pair, ("Done", (3,)), ("Did", (("Ask", ()), 1, "fun"))):
            self.assertEqual(end_told(("value", ("Done", (shown,)))), ("value", shown))
            for deed in ("ask", "done", "did", "a", "abcdefgh"):
                self.assertEqual(end_told(("value", ("Did", ((deed.capitalize(), ()), shown, "fun")))), ("unanswered", deed, shown))

    def test_bounds_of_shown_forms(self):
        """What is shown is no greater, and no deeper, than values in trees are."""
        for shown, told in [(deep_shown(119), True), (deep_shown(120), False), (wide_shown(2999), True), (wide_shown(3000), False), (deep_shown(290), False),
                            (deep_shown(118, "fun"), True), (deep_shown(119, "fun"), False)]:
            end = ("value", ("Done", (shown,)))
            self.assertEqual(end_told(end), ("value", shown) if told else end)
        deed = ("value", ("Did", (("Ask", ()), wide_shown(2996), "fun")))
        self.assertEqual(end_told(deed)[0], "unanswered")
        deed = ("value", ("Did", (("Ask", ()), wide_shown(2997), "fun")))
        self.assertIs(end_told(deed), deed)

    def test_ends_that_come_back_as_they_are(self):
        values = [
            ("more",), ("stuck", "call"), ("value", 5), ("value", "fun"), ("value", ("Done", ())), ("value", ("Done", (1, 2))), ("value", ("Done", 1)),
            ("value", ("Done", [1])), ("value", ["Done", (1,)]), ["value", ("Done", (1,))], ("value",), ("value", ("Done", (1,)), 1), ("Done", (1,)),
            ("values", ("Done", (1,))), ("value", ("done", (1,))), ("value", ("Done", (1,), 1)), ("unanswered", "ask", 1), ("stuck", ("Done", (1,))),
            ("value", ("Did", (("Ask", ()), 1))), ("value", ("Did", (("Ask", ()), 1, 2))), ("value", ("Did", (("Ask", ()), 1, "fun", 1))),
            ("value", ("Did", (("Ask", (1,)), 1, "fun"))), ("value", ("Did", ("Ask", 1, "fun"))), ("value", ("Did", (1, 1, "fun"))),
            ("value", ("Did", (("ask", ()), 1, "fun"))), ("value", ("Did", (("Ask", ()), 1, "Fun"))), ("value", ("Done", (True,))), ("value", ("Done", (None,))),
            ("value", ("Done", ("x",))), ("value", ("Done", (10 ** 12 + 1,))), ("value", ("Did", (("Ask", ()), [1], "fun"))),
            ("value", ("Did", ("fun", 1, "fun"))), None, 5, "value", (), [], True, ("value", ("Done", ((1, ()),))), ("value", ("Done", (("No", []),))),
            ("value", ("Done", (("Row", (1,) * 5),))), ("value", ("Done", (("Row", (1,), 1),))), ("value", ("Done", (("Row",),))), ("value", ("Did", (("Ask", (), ()), 1, "fun")))]
        for word in BARRED:
            values.append(("value", ("Did", ((word.capitalize(), ()), 1, "fun"))))
        for value in values:
            self.assertIs(end_told(value), value)
