"""The grammar of [8] written down as rules, and where a row of tokens ceases to begin a text of a tree.

This tells by all rules at once, as the reader of the package does not, how far tokens can be read.
"""

RULES = {
    "wide": [["fun", "N", "->", "wide"], ["let", "N", "=", "wide", "in", "wide"],
             ["rec", "N", "N", "=", "wide", "in", "wide"], ["compare"]],
    "compare": [["sum", "<", "sum"], ["sum", "=", "sum"], ["sum"]],
    "sum": [["sum", "+", "product"], ["sum", "-", "product"], ["product"]],
    "product": [["product", "*", "call"], ["call"]],
    "call": [["call", "close"], ["do", "N", "close"], ["close"]],
    "close": [["number"], ["N"], ["T", "(", ")"], ["T", "(", "wides", ")"], ["match", "wide", "{", "rows", "}"],
              ["answer", "wide", "{", "plain", "N", "->", "wide", "}"],
              ["answer", "wide", "{", "plain", "N", "->", "wide", ";", "deeds", "}"], ["(", "wide", ")"]],
    "number": [["0"], ["1"], ["(", "-", "1", ")"]],
    "wides": [["wide"], ["wides", ",", "wide"]],
    "rows": [["row"], ["rows", ";", "row"]],
    "row": [["pattern", "->", "wide"]],
    "deeds": [["deed"], ["deeds", ";", "deed"]],
    "deed": [["N", "N", "N", "->", "wide"]],
    "pattern": [["_"], ["N"], ["number"], ["T", "(", ")"], ["T", "(", "patterns", ")"]],
    "patterns": [["pattern"], ["patterns", ",", "pattern"]],
    "all": [["wide"]],
}


def class_of(token):
    if token in ("fun", "let", "in", "rec", "match", "do", "answer", "plain"):
        return token
    if token[0].isdigit():
        return "0" if token == "0" else "1"
    if token[0].isupper():
        return "T"
    return "N" if token[0].isalpha() else token


def reach(tokens):
    """How many tokens begin a text, and whether all of them are one."""
    states = [close_over({("all", 0, 0, 0)}, [], 0)]
    for at, token in enumerate(tokens):
        told = class_of(token)
        moved = set()
        for head, rule, dot, begin in states[at]:
            symbols = RULES[head][rule]
            if dot < len(symbols) and symbols[dot] == told:
                moved.add((head, rule, dot + 1, begin))
        if not moved:
            return at, False
        states.append(close_over(moved, states, at + 1))
    return len(tokens), ("all", 0, 1, 0) in states[-1]


def close_over(items, states, at):
    done = set()
    waiting = list(items)
    while waiting:
        item = waiting.pop()
        if item in done:
            continue
        done.add(item)
        head, rule, dot, begin = item
        symbols = RULES[head][rule]
        if dot == len(symbols):
            for other in (states[begin] if begin < at else done.copy()):
                inner = RULES[other[0]][other[1]]
                if other[2] < len(inner) and inner[other[2]] == head:
                    waiting.append((other[0], other[1], other[2] + 1, other[3]))
        elif symbols[dot] in RULES:
            waiting.extend((symbols[dot], one, 0, at) for one in range(len(RULES[symbols[dot]])))
    return done
