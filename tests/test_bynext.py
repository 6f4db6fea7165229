"""[25], [67]: programs led by what comes next."""

import unittest

from ledtexts import NextTexts
from nearanswer.bynext import by_next
from nearanswer.texts import read_tree, tree_text
from test_bytrees import LedTest


class ByNextTest(LedTest, unittest.TestCase):

    texts = NextTexts

    def led(self, program):
        return by_next(program)

    def test_small_texts(self):
        for text, led in [
                ("No()", "(fun a -> a No()) (fun b -> Done(b))"), ("fun x -> x", "(fun a -> a (fun b -> fun c -> c b)) (fun d -> Done(d))"),
                ("1 2", "(fun a -> (fun b -> b 1) (fun c -> (fun d -> d 2) (fun e -> c e a))) (fun f -> Done(f))"),
                ("let x = 1 in x", "(fun a -> (fun b -> b 1) (fun c -> (fun d -> d c) a)) (fun e -> Done(e))"),
                ("rec f x = f in 1", "(fun a -> rec b c = fun d -> d b in (fun e -> e 1) a) (fun f -> Done(f))"),
                ("match 1 {Two(x, _) -> x}", "(fun a -> (fun b -> b 1) (fun c -> match c {Two(d, _) -> (fun e -> e d) a})) (fun f -> Done(f))"),
                ("1 < 2", "(fun a -> (fun b -> b 1) (fun c -> (fun d -> d 2) (fun e -> a (c < e)))) (fun f -> Done(f))"),
                ("answer 1 {plain x -> x}", "(fun a -> rec b c = fun d -> match c {Done(e) -> (fun f -> f e) d; Did(g, h, i) -> "
                 "match g {_ -> Did(g, h, fun j -> b (i j) d)}} in b ((fun k -> k 1) (fun l -> Done(l))) a) (fun m -> Done(m))")]:
            self.assertEqual(tree_text(by_next(read_tree(text))), led)
