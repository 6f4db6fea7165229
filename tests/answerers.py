"""Programs with answerers for states, faults, choices, rows, turns and reading, and with rests used in many ways."""

from nearanswer.texts import read_tree

STATE = "(answer ONE {plain x -> fun s -> Pair(x, s); get u k -> fun s -> k s s; put v k -> fun s -> k v v}) VALUE"
FAULTS = "answer ONE {plain x -> Good(x); fault v k -> Bad(v)}"
HANDED = "answer ONE {plain x -> End(x); hand v k -> Row(v, k v)}"
JOIN = "rec join a = fun b -> match a {End() -> b; Row(x, c) -> Row(x, join c b)} in "
CHOICES = JOIN + ("answer ONE {plain x -> Row(x, End()); fail u k -> End(); pick n k -> rec go i = match i < n "
                  "{Yes() -> join (k i) (go (i + 1)); No() -> End()} in go 0}")
FIRST = ("answer ONE {plain x -> Good(x); fail u k -> End(); pick n k -> rec go i = match i < n "
         "{Yes() -> match k i {Good(x) -> Good(x); _ -> go (i + 1)}; No() -> End()} in go 0}")
ANSWERS = ("{plain x -> next; say v k -> fun q -> Row(v, k v q); turn u k -> fun q -> next (push q (fun r -> k u r))}")
TURNS = ("rec next q = match q {End() -> End(); Row(f, c) -> f c} in rec push q = fun f -> match q "
         "{End() -> Row(f, End()); Row(g, c) -> Row(g, push c f)} in "
         "next Row(fun r -> (answer ONE ANSWERS) r, Row(fun r -> (answer TWO ANSWERS) r, End()))")
READING = JOIN + ("(answer ONE {plain x -> fun t -> Row(Pair(x, t), End()); fail u k -> fun t -> End(); "
                  "next u k -> fun t -> match t {End() -> End(); Row(v, c) -> k v c}; pick n k -> fun t -> "
                  "rec go i = match i < n {Yes() -> join (k i t) (go (i + 1)); No() -> End()} in go 0}) VALUE")


def around(text, one, value="0", two="0"):
    """The text of an answerer around that of a program."""
    text = text.replace("ANSWERS", ANSWERS)
    return text.replace("ONE", "(" + one + ")").replace("VALUE", value).replace("TWO", "(" + two + ")")


# Texts of programs, and the shown forms of their ends.
TOLD = [
    (around(STATE, "do put (do get 0 + 1)", "5"), ("value", ("Pair", (6, 6)))),
    (around(STATE, "let a = do get 0 in let b = do put (a + 2) in a + do get 0", "3"), ("value", ("Pair", (8, 5)))),
    (around(STATE, "7", "5"), ("value", ("Pair", (7, 5)))),
    (around(FAULTS, "do fault 3 + 1"), ("value", ("Bad", (3,)))),
    (around(FAULTS, "3 + 1"), ("value", ("Good", (4,)))),
    (around(FAULTS, "1 2"), ("stuck", "call")),
    (around(FAULTS, around(STATE, "let a = do put 9 in do fault (do get 0)", "5")), ("value", ("Bad", (9,)))),
    (around(STATE, around(FAULTS, "let a = do put 9 in do fault (do get 0)"), "5"), ("value", ("Pair", (("Bad", (9,)), 9)))),
    (around(HANDED, "do hand 1 + do hand 2"), ("value", ("Row", (1, ("Row", (2, ("End", (3,)))))))),
    (around(HANDED, "do ask (do hand 1)"), ("unanswered", "ask", 1)),
    (around(CHOICES, "do pick 2 + do pick 2"), ("value", ("Row", (0, ("Row", (1, ("Row", (1, ("Row", (2, ("End", ()))))))))))),
    (around(CHOICES, "match do pick 3 {1 -> do fail 0; x -> x * 10}"), ("value", ("Row", (0, ("Row", (20, ("End", ()))))))),
    (around(CHOICES, "do pick No()"), ("stuck", "number")),
    (around(FIRST, "match do pick 3 {2 -> 7; _ -> do fail 0}"), ("value", ("Good", (7,)))),
    (around(FIRST, "do fail 1"), ("value", ("End", ()))),
    (around(TURNS, "let a = do say 1 in let b = do turn 0 in do say 2", two="do say 3"),
     ("value", ("Row", (1, ("Row", (3, ("Row", (2, ("End", ()))))))))),
    (around(READING, "do next 0", "Row(4, Row(5, End()))"),
     ("value", ("Row", (("Pair", (4, ("Row", (5, ("End", ()))))), ("End", ()))))),
    (around(READING, "do next 0", "7"), ("stuck", "match")),
    ("answer do ask 1 + do ask 2 {plain x -> x; ask x k -> k (k x)}", ("value", 10)),
    ("answer (answer do ask 1 + do tell 2 {plain x -> x * 2; ask x k -> k (x + do tell 5)}) {plain x -> x + 1; tell y k -> k (y * 3)}", ("value", 45)),
    ("answer (answer do ask 1 + 5 {plain x -> x; ask x k -> do ask (x + 10)}) {plain x -> x; ask y k -> k (y * 2)}", ("value", 22)),
    ("answer do ask 1 {plain x -> x + 1; ask x k -> k 2 * k 3}", ("value", 12)),
    ("(answer do ask 1 + do ask 2 {plain x -> fun y -> x; ask x k -> fun y -> k y (x + y)}) 5", ("value", 11)),
    ("let k = answer do ask 1 + 5 {plain x -> x; ask x k -> k} in k 3", ("value", 8)),
    ("let k = answer do ask 1 + do ask 5 {plain x -> x; ask x k -> k} in answer (k 3) 4 {plain x -> x; ask x k -> 0}", ("value", 7)),
    ("answer do ask (fun x -> x + do ask 1) {plain x -> x; ask f k -> match f {0 -> 0; g -> k (fun y -> y)}}", ("value", "fun")),
    ("answer Four(do ask 1, 2 + 3, do ask 4, do ask 5) {plain x -> Three(x, 1, x); ask x k -> k (x * 2)}",
     ("value", ("Three", (("Four", (2, 5, 8, 10)), 1, ("Four", (2, 5, 8, 10)))))),
    ("answer Three(do ask 1, Four(1, 2 * 2, do ask 5, 4), do ask 2) {plain x -> match x {Three(a, Four(b, c, d, e), f) -> Three(f, d, a)}; ask x k -> One(k (x + 1))}",
     ("value", ("One", (("One", (("One", (("Three", (3, 6, 2)),)),)),)))),
    ("answer 1 + do stop 5 {plain x -> x + 1; stop x k -> x}", ("value", 5)),
    ("answer do ask 1 + do ask 2 {plain x -> x; ask x k -> match x {1 -> k 5; _ -> let y = x in k (y * 2)}}", ("value", 9)),
    ("let f = fun x -> do ask x in answer f 1 + f 2 {plain x -> x; ask x k -> k (x * 10)}", ("value", 30)),
    ("rec f x = match x {0 -> do ask 0; _ -> do ask x + f (x - 1)} in answer f 3 {plain x -> x; ask x k -> k (x + 1)}", ("value", 10)),
    ("answer do ask 1 {plain x -> x; tell x k -> 2}", ("unanswered", "ask", 1)),
    ("answer do ask One(fun x -> x) {plain x -> x}", ("unanswered", "ask", ("One", ("fun",)))),
    ("match Two(1, No()) {Two(x, Yes()) -> x}", ("stuck", "match")),
    ("999999999999 + 2", ("stuck", "great")),
    ("answer do ask 1 {plain x -> x; ask x k -> (fun y -> y) k 7}", ("value", 7)),
    ("answer do ask 1 + 1 {plain x -> x; ask x k -> match k 5 {6 -> k 7; _ -> 0}}", ("value", 8)),
    ("answer answer do ask 1 + do tell 2 {plain x -> x; ask x k -> k 10 + k 20} {plain x -> x; tell y l -> l y + l 1}", ("value", 132)),
    ("answer do ask 1 {plain ask -> ask; ask ask k -> let k = k ask in k + ask}", ("value", 2)),
    ("answer do ask (do ask 3) {plain x -> Done(x); ask x k -> Two(x, k (x + 1))}", ("value", ("Two", (3, ("Two", (4, ("Done", (5,)))))))),
]
TEXTS = [text for text, _ in TOLD]


def answerer_programs():
    return [read_tree(text) for text in TEXTS]
