"""Row values, and programs with an answerer of the library around them.

The texts are those of the document, One() standing for the program, Value() for a value, Jobs() for the row of jobs
and "deed" for a deed. What is put in has no free names, so that none is caught.
"""

from nearanswer.checks import check_bounds, check_name, check_program, check_value
from nearanswer.rowvalues import check_items, check_programs, check_row, items_of, row_of
from nearanswer.texts import read_tree
from nearanswer.treeforms import parts_in, with_parts

STATE = "(answer One() {plain x -> fun s -> Pair(x, s); get u k -> fun s -> k s s; put v k -> fun s -> k v v}) Value()"
FAULTS = "answer One() {plain x -> Good(x); fault v k -> Bad(v)}"
ROWS = "answer One() {plain x -> End(x); hand v k -> Row(v, k v)}"
CHOICES = """rec join a = fun b -> match a {End() -> b; Row(x, c) -> Row(x, join c b)} in
answer One() {plain x -> Row(x, End()); fail u k -> End();
pick n k -> rec go i = match i < n {Yes() -> join (k i) (go (i + 1)); No() -> End()} in go 0}"""
FIRST = """answer One() {plain x -> Good(x); fail u k -> End();
pick n k -> rec go i = match i < n {Yes() -> match k i {Good(x) -> Good(x); _ -> go (i + 1)}; No() -> End()} in go 0}"""
TURNS = """rec next q = match q {End() -> End(); Row(f, c) -> f c} in
rec push q = fun f -> match q {End() -> Row(f, End()); Row(g, c) -> Row(g, push c f)} in next Jobs()"""
JOB = """fun r -> (answer One() {plain x -> next; say v k -> fun q -> Row(v, k v q);
turn u k -> fun q -> next (push q (fun r -> k u r))}) r"""
READING = """rec join a = fun b -> match a {End() -> b; Row(x, c) -> Row(x, join c b)} in
(answer One() {plain x -> fun t -> Row(Pair(x, t), End()); fail u k -> fun t -> End();
next u k -> fun t -> match t {End() -> End(); Row(v, c) -> k v c};
pick n k -> fun t -> rec go i = match i < n {Yes() -> join (k i t) (go (i + 1)); No() -> End()} in go 0}) Value()"""
WRITTEN = """(answer One() {plain x -> fun l -> Pair(x, l);
deed v k -> fun l -> let w = do deed v in k w Row(w, l)}) End()"""
ANEW = """(answer One() {plain x -> fun l -> x;
deed v k -> fun l -> match l {End() -> let w = do deed v in k w l; Row(w, c) -> k w c}}) Value()"""


def filled(tree, table):
    """The tree with the trees of a table in the place of the shapes with its tags."""
    if tree[0] == "shape" and tree[1] in table:
        return table[tree[1]]
    parts = []
    for part in parts_in(tree):
        parts.append(filled(part, table))
    return with_parts(tree, parts)


def built(text, table):
    """The tree of a text with the trees of a table put in."""
    tree = filled(read_tree(text), table)
    check_bounds(tree)
    return tree


def row_value(values):
    """The row value of a tuple of values."""
    check_items(values)
    row = row_of(values)
    check_bounds(row)
    return row


def row_items(value):
    """The tuple of the items of a row value, None for another value."""
    check_value(value)
    return items_of(value)


def with_state(value, program):
    """The program with a state, which is the value at first."""
    check_value(value)
    check_program(program)
    return built(STATE, {"One": program, "Value": value})


def with_faults(program):
    """The program with faults."""
    check_program(program)
    return built(FAULTS, {"One": program})


def with_rows(program):
    """The program with rows that are handed out."""
    check_program(program)
    return built(ROWS, {"One": program})


def with_choices(program):
    """The program with choices."""
    check_program(program)
    return built(CHOICES, {"One": program})


def with_first(program):
    """The program with the first choice."""
    check_program(program)
    return built(FIRST, {"One": program})


def with_turns(programs):
    """The programs of a tuple in turns."""
    check_programs(programs)
    jobs = [filled(read_tree(JOB), {"One": program}) for program in programs]
    return built(TURNS, {"Jobs": row_of(jobs)})


def with_reading(value, program):
    """The program reading a value."""
    check_value(value)
    check_program(program)
    return built(READING, {"One": program, "Value": value})


def written_down(deed, program):
    """The program with the answers to a deed written down."""
    check_name(deed)
    check_program(program)
    return built(WRITTEN.replace("deed", deed), {"One": program})


def done_anew(deed, row, program):
    """The program done anew with the answers of a row to a deed."""
    check_name(deed)
    check_row(row)
    check_program(program)
    return built(ANEW.replace("deed", deed), {"One": program, "Value": row})
