"""[27], [28] told in another way than the package does: with labels, to which places are given at last.

Also codes that are bent at one place, and a second telling of looking ([31]).
"""


class Label:
    pass


def code_by_hand(program):
    blocks = []
    block_by_hand(blocks, "run", [], lambda out, emit: emit(program, []))
    return tuple(blocks)


def block_by_hand(blocks, kind, names, fill):
    at = len(blocks)
    blocks.append(None)
    out = []
    fill(out, lambda tree, scope: orders_by_hand(blocks, out, tree, scope))
    out.append(("return",))
    places = {}
    orders = []
    for item in out:
        if isinstance(item, Label):
            places[item] = len(orders)
        else:
            orders.append(item)
    done = tuple(tuple(places[part] if isinstance(part, Label) else part for part in order) for order in orders)
    blocks[at] = (kind, len(names), done)
    return at


def orders_by_hand(blocks, out, tree, scope):
    """Emits the orders of a tree; the scope lists the names from the innermost on."""
    def emit(part, inner):
        orders_by_hand(blocks, out, part, inner)

    def block(kind, body, names):
        return block_by_hand(blocks, kind, names, lambda _, own: own(body, names))

    word = tree[0]
    if word == "num":
        out.append(("num", tree[1]))
    elif word == "name":
        out.append(("get", scope.index(tree[1])))
    elif word == "fun":
        out.append(("fun", block("fun", tree[2], [tree[1]] + scope)))
    elif word == "call":
        emit(tree[1], scope)
        emit(tree[2], scope)
        out.append(("call",))
    elif word == "let":
        emit(tree[2], scope)
        out.append(("bind",))
        emit(tree[3], [tree[1]] + scope)
        out.append(("free", 1))
    elif word == "rec":
        out.append(("own", block("own", tree[3], [tree[2], tree[1]] + scope)))
        out.append(("bind",))
        emit(tree[4], [tree[1]] + scope)
        out.append(("free", 1))
    elif word == "shape":
        for part in tree[2]:
            emit(part, scope)
        out.append(("shape", tree[1], len(tree[2])))
    elif word == "op":
        emit(tree[2], scope)
        emit(tree[3], scope)
        out.append(("op", tree[1]))
    elif word == "do":
        emit(tree[2], scope)
        out.append(("do", tree[1]))
    elif word == "match":
        emit(tree[1], scope)
        behind = Label()
        for pattern, body in tree[2]:
            names = []
            bare = without_names(pattern, names)
            other = Label()
            out.append(("test", bare, other))
            emit(body, names[::-1] + scope)
            if names:
                out.append(("free", len(names)))
            out.append(("go", behind))
            out.append(other)
        out.extend([("lack",), behind])
    else:
        def fill(own_out, own):
            own(tree[1], scope)
            own_out.extend([("plain",), ("bind",)])
            own(tree[2][1], [tree[2][0]] + scope)
        at = block_by_hand(blocks, "answer", scope, fill)
        rows = []
        for deed, entry, rest, body in tree[3]:
            rows.append((deed, block("row", body, [rest, entry] + scope)))
        out.append(("answer", at, tuple(rows)))


def without_names(pattern, names):
    if pattern[0] == "bind":
        names.append(pattern[1])
        return ("bind",)
    if pattern[0] == "shapeis":
        return pattern[:2] + (tuple(without_names(part, names) for part in pattern[2]),)
    return pattern


NO_ORDERS = [
    None, (), "num", ["call"], ("num",), ("num", True), ("num", 10 ** 12 + 1), ("num", "1"), ("get",), ("get", -1), ("get", 1000), ("get", True), ("fun", 1000),
    ("fun", -1), ("fun", None), ("own", 1000), ("own", 1, 2), ("call", 1), ("bind", "x"), ("free", 0), ("free", 1000), ("free",), ("shape", "Two"),
    ("shape", "two", 2), ("shape", "Two", 5), ("shape", "Two", -1), ("shape", "Two", True), ("op", "/"), ("op", 1), ("op", ["+"]), ("op", "+", "-"), ("test", ("any",)),
    ("test", ("any",), 1000), ("test", ("any",), -1), ("test", ("bind", "x"), 1), ("test", ("any", 1), 1), ("test", ("numis",), 1), ("test", ("numis", True), 1),
    ("test", ("shapeis", "Two", [("any",)]), 1), ("test", ("shapeis", "two", ()), 1), ("test", ("shapeis", "Two", (("any",),) * 5), 1), ("test", (), 1),
    ("test", ("shapeis", "Two"), 1), ("test", ("numis", 10 ** 13), 1), ("lack", 1), ("go",), ("go", 1000), ("go", -1), ("go", True), ("do", "Ask"), ("do", "let"),
    ("do",), ("do", "ask", 1), ("answer", 1), ("answer", 1000, ()), ("answer", 1, []), ("answer", 1, (("ask",),)), ("answer", 1, (("ask", 1000),)),
    ("answer", 1, (("ask", True),)), ("answer", 1, (("ask", 1, 1),)), ("answer", 1, (("ask", 1), ("ask", 2))), ("answer", 1, tuple((deed, 1) for deed in "abcdefg")), ("answer", 1, (["ask", 1],)),
    ("answer", 1, (("Ask", 1),)), ("plain", 1), ("return", 1), ("other",), (1,), ("match", 1), ("bind", 1),
]


def bent_orders(chance, order, many_places, many_blocks):
    """Orders that are unlike an order, and fit the form of orders."""
    other = [("num", 7), ("get", 0), ("get", 1), ("call",), ("bind",), ("free", 1), ("free", 2), ("shape", "No", 0), ("shape", "Two", 2), ("op", "+"),
             ("lack",), ("do", "ask"), ("plain",), ("return",), ("fun", chance.randrange(many_blocks + 1)), ("own", chance.randrange(many_blocks + 1)),
             ("go", chance.randrange(many_places + 2)), ("test", ("bind",), chance.randrange(many_places + 2)), ("test", ("any",), chance.randrange(many_places + 2)),
             ("answer", chance.randrange(many_blocks + 1), (("ask", chance.randrange(many_blocks + 1)),)), ("answer", chance.randrange(many_blocks + 1), ())]
    if len(order) == 2 and isinstance(order[1], int):
        other += [(order[0], order[1] + 1), (order[0], max(order[1] - 1, 1))] * 3
    if order[0] == "test":
        other += [("test", order[1], order[2] + 1), ("test", order[1], max(order[2] - 1, 0)), ("test", ("bind",), order[2])] * 3
    if order[0] == "shape":
        other += [("shape", order[1], (order[2] + 1) % 5), ("shape", "Other", order[2])] * 3
    return [one for one in other if one != order]


def bent_code(chance, code):
    """A code that is unlike a code at one place."""
    at = chance.randrange(len(code))
    kind, given, orders = code[at]
    roll = chance.random()
    if roll < 0.1:
        block = (chance.choice([one for one in ("run", "fun", "own", "row", "answer") if one != kind]), given, orders)
    elif roll < 0.2:
        block = (kind, chance.choice([given + 1, max(given - 1, 0)]), orders)
    elif roll < 0.25 and len(code) > 1:
        return code[:at] + code[at + 1:]
    elif roll < 0.3:
        return code[:at] + code[at:at + 1] + code[at:]
    else:
        place = chance.randrange(len(orders))
        if roll < 0.45:
            changed = orders[:place] + orders[place + 1:] or (("lack",),)
        elif roll < 0.6:
            changed = orders[:place] + (chance.choice(bent_orders(chance, ("lack",), len(orders), len(code))),) + orders[place:]
        else:
            changed = orders[:place] + (chance.choice(bent_orders(chance, orders[place], len(orders), len(code))),) + orders[place + 1:]
        block = (kind, given, changed)
    return code[:at] + (block,) + code[at + 1:]


def looked_by_hand(code):
    """[31] told by ways: all triples that lead to a place are gathered, with the place from which they come."""
    tables = []
    for index, (kind, given, orders) in enumerate(code):
        if index == 0 and (kind != "run" or given != 0) or index > 0 and kind == "run":
            return ("fault", index, 0, "block")
        came = [[] for _ in orders]
        came[0].append((0, given, 1 if kind == "answer" else 0))
        for place, order in enumerate(orders):
            if came[place]:
                told = order_by_hand(code, index, place, order, came[place][0])
                if isinstance(told, str):
                    return ("fault", index, place, told)
                for to, triple in told:
                    came[to].append(triple)
                    if len(set(came[to])) > 1:
                        return ("fault", index, place, "ways")
        tables.append(tuple(triples[0] if triples else None for triples in came))
    return ("sound", tuple(tables))


def order_by_hand(code, index, place, order, triple):
    """The first fault of an order but "ways", or the list of the pairs (place, triple) to which it leads."""
    operands, bound, is_open = triple
    given, orders = code[index][1:]
    word = order[0]
    places = {"test": order[-1:], "go": order[-1:]}.get(word, ())
    if any(to <= place or to >= len(orders) for to in places):
        return "to"
    named = {"fun": [(order[-1], "fun", 1)], "own": [(order[-1], "own", 2)]}.get(word, [])
    if word == "answer":
        named = [(order[1], "answer", 0)] + [(block, "row", 2) for _, block in order[2]]
    for block, kind, more in named:
        if block >= len(code) or code[block][0] != kind or code[block][1] != bound + more:
            return "block"
    takes, puts = {"num": (0, 1), "get": (0, 1), "fun": (0, 1), "own": (0, 1), "call": (2, 1), "bind": (1, 0), "free": (0, 0), "op": (2, 1), "test": (1, 0),
                   "lack": (0, 0), "go": (0, 0), "do": (1, 1), "answer": (0, 1), "plain": (0, 0), "return": (0, 0), "shape": (order[-1], 1)}[word]
    if operands < takes:
        return "operands"
    if word == "get" and order[1] >= bound or word == "free" and bound - order[1] < given:
        return "bound"
    if word == "plain" and not (is_open == 1 and operands == 1):
        return "open"
    leads_on = word not in ("go", "return", "lack")
    if word == "return" and not (is_open == 0 and operands == 1) or leads_on and place + 1 == len(orders):
        return "end"
    behind = (operands - takes + puts, bound, is_open)
    if word == "bind":
        behind = (operands - 1, bound + 1, is_open)
    elif word == "free":
        behind = (operands, bound - order[1], is_open)
    elif word == "plain":
        behind = (operands, bound, 0)
    elif word == "test":
        return [(place + 1, (operands - 1, bound + binds(order[1]), is_open)), (order[2], triple)]
    elif word == "go":
        return [(order[1], triple)]
    return [(place + 1, behind)] if leads_on else []


def binds(pattern):
    if pattern[0] == "shapeis":
        return sum(binds(part) for part in pattern[2])
    return 1 if pattern == ("bind",) else 0
