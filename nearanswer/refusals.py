"""Lots of paths at which programs are kinded, or refused."""

from nearanswer.books import check_book
from nearanswer.checks import check_program, check_scopes, check_size
from nearanswer.errors import InvalidPaths
from nearanswer.kindforms import are_ascending
from nearanswer.kindrules import kinded_program
from nearanswer.treeforms import fits_path, paths_in


def are_paths(program, value):
    """Whether any value is an ascending tuple of paths of a program."""
    if type(value) is not tuple or not all([fits_path(program, path) for path in value]):
        return False
    return are_ascending(value)


def check_bounds_of(program):
    check_size(program, 80)
    check_scopes(program, 12)


def is_kinded(book, program, paths):
    return kinded_program(book, program, {path: True for path in paths})[0].holds()


def without_one(paths, index):
    return paths[:index] + paths[index + 1:]


def kinded_at(book, program, paths):
    """Whether a program is kinded at a lot of paths."""
    check_book(book)
    check_program(program)
    if not are_paths(program, paths):
        raise InvalidPaths("this is no ascending tuple of paths of the program")
    check_bounds_of(program)
    return is_kinded(book, program, paths)


def refusal_lot(book, program):
    """A refusal lot of a program, None if it has a kind."""
    check_book(book)
    check_program(program)
    check_bounds_of(program)
    lot = tuple(paths_in(program))
    if is_kinded(book, program, lot):
        return None
    # A path that can be spared once can be spared from each smaller lot, so that each is asked for once.
    at = 0
    while at < len(lot):
        fewer = without_one(lot, at)
        if is_kinded(book, program, fewer):
            at = at + 1
        else:
            lot = fewer
    return lot


def is_refusal_lot(book, program, value):
    """Whether any value is a refusal lot of a program."""
    check_book(book)
    check_program(program)
    check_bounds_of(program)
    if not are_paths(program, value) or is_kinded(book, program, value):
        return False
    return all([is_kinded(book, program, without_one(value, at)) for at in range(len(value))])
