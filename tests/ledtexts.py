"""[24] and [25] told by the texts of DOC.md: what stands there as [t] is put into the tree of the text.

All new names are told anew wherever a text is used; none of them stands in the programs of the tests.
"""

from nearanswer.texts import read_tree

SIGNS = "abcdefghijklmnopqrstuvwxyz"


def replaced(tree, table):
    """A tree with other trees, or names, in the place of names, wherever these stand."""
    if isinstance(tree, tuple):
        if len(tree) == 2 and tree[0] == "name" and tree[1] in table:
            told = table[tree[1]]
            return ("name", told) if isinstance(told, str) else told
        return tuple(replaced(part, table) for part in tree)
    told = table.get(tree) if isinstance(tree, str) else None
    return told if isinstance(told, str) else tree


class Texts:
    """Led trees by texts; `new` are the names in a text that do not stand in the program, told in braces."""

    def __init__(self):
        self.used = 0

    def fresh(self):
        self.used += 1
        first, second = divmod(self.used, 26)
        third, first = divmod(first, 26)
        return "zz" + SIGNS[third] + SIGNS[first] + SIGNS[second]

    def fill(self, text, trees, names=()):
        """The tree of a text, a new name for each of the names, and trees in the place of others."""
        table = {name: self.fresh() for name in names}
        tree = read_tree(text)
        # New names first, so that nothing that is put in is changed by them.
        return replaced(replaced(tree, table), {name: told for name, told in trees.items() if name not in table})


def tag(deed):
    return deed[:1].upper() + deed[1:]


class TreeTexts(Texts):

    def program(self, tree):
        text = "rec AFTER m = fun f -> match m {Done(x) -> f x; Did(d, p, r) -> Did(d, p, fun q -> AFTER (r q) f)} in t"
        return self.fill(text.replace("AFTER", "zzafter"), {"t": self.led(tree)}, "mfxdprq")

    def led(self, tree):
        return getattr(self, "led_" + tree[0])(tree)

    def led_num(self, tree):
        return ("shape", "Done", (tree,))

    led_name = led_num

    def led_fun(self, tree):
        return ("shape", "Done", (("fun", tree[1], self.led(tree[2])),))

    def led_call(self, tree):
        return self.fill("zzafter t (fun p -> zzafter u (fun q -> p q))", {"t": self.led(tree[1]), "u": self.led(tree[2])}, "pq")

    def led_let(self, tree):
        return self.fill("zzafter t (fun x -> u)", {"t": self.led(tree[2]), "u": self.led(tree[3]), "x": tree[1]})

    def led_rec(self, tree):
        return ("rec", tree[1], tree[2], self.led(tree[3]), self.led(tree[4]))

    def led_shape(self, tree):
        names = "pqrs"[:len(tree[2])]
        text = "Done({}({}))".format(tree[1], ", ".join(names))
        for name, part in list(zip(names, "tuvw"))[::-1]:
            text = "zzafter {} (fun {} -> {})".format(part, name, text)
        return self.fill(text, dict(zip("tuvw", [self.led(part) for part in tree[2]])), names)

    def led_match(self, tree):
        whole = self.fill("zzafter t (fun p -> match p {_ -> 0})", {"t": self.led(tree[1])}, "p")
        one = whole[2][2][1]
        rows = tuple((pattern, self.led(body)) for pattern, body in tree[2])
        return ("call", whole[1], ("fun", whole[2][1], ("match", one, rows)))

    def led_op(self, tree):
        text = "zzafter t (fun p -> zzafter u (fun q -> Done(p {} q)))".format(tree[1])
        return self.fill(text, {"t": self.led(tree[2]), "u": self.led(tree[3])}, "pq")

    def led_do(self, tree):
        return self.fill("zzafter t (fun p -> Did({}(), p, fun q -> Done(q)))".format(tag(tree[1])), {"t": self.led(tree[2])}, "pq")

    def led_answer(self, tree):
        _, one, (name, body), rows = tree
        text = ("rec go m = match m {Done(x) -> u; Did(d, p, r) -> match d {ROWS _ -> Did(d, p, fun q -> go (r q))}} in go t")
        trees = {"t": self.led(one), "u": self.led(body), "x": name}
        return self.with_rows(text, trees, rows, "{} -> let {} = p in let {} = fun q -> go (r q) in {}; ", ("go",) + tuple("mdprq"))

    def with_rows(self, text, trees, rows, row_text, names):
        told = ""
        for at, (deed, entry, rest, body) in enumerate(rows):
            marks = ["yy" + SIGNS[at], "kk" + SIGNS[at], "vv" + SIGNS[at]]
            told += row_text.format(tag(deed) + "()", *marks)
            trees.update(zip(marks, [entry, rest, self.led(body)]))
        return self.fill(text.replace("ROWS", told), trees, names)


class NextTexts(TreeTexts):

    def program(self, tree):
        return self.fill("t (fun x -> Done(x))", {"t": self.led(tree)}, "x")

    def led_num(self, tree):
        return self.fill("fun c -> c t", {"t": tree}, "c")

    led_name = led_num

    def led_fun(self, tree):
        return self.fill("fun c -> c (fun x -> t)", {"t": self.led(tree[2]), "x": tree[1]}, "c")

    def led_call(self, tree):
        return self.fill("fun c -> t (fun p -> u (fun q -> p q c))", {"t": self.led(tree[1]), "u": self.led(tree[2])}, "cpq")

    def led_let(self, tree):
        return self.fill("fun c -> t (fun x -> u c)", {"t": self.led(tree[2]), "u": self.led(tree[3]), "x": tree[1]}, "c")

    def led_rec(self, tree):
        trees = {"t": self.led(tree[3]), "u": self.led(tree[4]), "f": tree[1], "x": tree[2]}
        return self.fill("fun c -> rec f x = t in u c", trees, "c")

    def led_shape(self, tree):
        names = "pqrs"[:len(tree[2])]
        text = "c {}({})".format(tree[1], ", ".join(names))
        for name, part in list(zip(names, "tuvw"))[::-1]:
            text = "{} (fun {} -> {})".format(part, name, text)
        return self.fill("fun c -> " + text, dict(zip("tuvw", [self.led(part) for part in tree[2]])), names + "c")

    def led_match(self, tree):
        whole = self.fill("fun c -> t (fun p -> match p {_ -> c})", {"t": self.led(tree[1])}, "cp")
        _, name, (_, one, (_, entry, (_, used, ((_, behind),)))) = whole
        rows = tuple((pattern, ("call", self.led(body), behind)) for pattern, body in tree[2])
        return ("fun", name, ("call", one, ("fun", entry, ("match", used, rows))))

    def led_op(self, tree):
        text = "fun c -> t (fun p -> u (fun q -> c (p {} q)))".format(tree[1])
        return self.fill(text, {"t": self.led(tree[2]), "u": self.led(tree[3])}, "cpq")

    def led_do(self, tree):
        return self.fill("fun c -> t (fun p -> Did({}(), p, c))".format(tag(tree[1])), {"t": self.led(tree[2])}, "cp")

    def led_answer(self, tree):
        _, one, (name, body), rows = tree
        text = ("fun c -> rec go m = fun e -> match m {Done(x) -> u e; Did(d, p, r) -> match d {ROWS _ -> Did(d, p, fun q -> go (r q) e)}} "
                "in go (t (fun xx -> Done(xx))) c")
        trees = {"t": self.led(one), "u": self.led(body), "x": name}
        row = "{} -> let {} = p in let {} = fun q -> go (r q) in {} e; "
        return self.with_rows(text, trees, rows, row, ("go", "xx") + tuple("cemdprq"))
