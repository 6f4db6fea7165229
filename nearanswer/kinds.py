"""Kinds of programs."""

from nearanswer.books import check_book, check_kinding
from nearanswer.checks import check_program, check_scopes, check_size
from nearanswer.kindings import is_instance_of, kinding_from
from nearanswer.kindrules import kinded_program


def check_bounds_of(program):
    check_size(program, 400)
    check_scopes(program, 12)


def widest(book, program):
    """The widest kinding of a program, None if it has none."""
    check_book(book)
    check_program(program)
    check_bounds_of(program)
    store, kind, row = kinded_program(book, program, None)
    if not store.holds():
        return None
    return kinding_from(store, kind, row)


def has_kinding(book, program, kinding):
    """Whether a program has a kinding."""
    check_book(book)
    check_program(program)
    check_kinding(book, kinding)
    check_bounds_of(program)
    store, kind, row = kinded_program(book, program, None)
    return store.holds() and is_instance_of(store, kind, row, kinding)


def deeds_left(book, program):
    """The ascending list of the deeds of the widest kinding's deed row, None if there is none."""
    check_book(book)
    check_program(program)
    check_bounds_of(program)
    store, _, row = kinded_program(book, program, None)
    if not store.holds():
        return None
    table, _ = store.settled(row)
    return sorted(table)
