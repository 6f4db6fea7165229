"""Books, and kindings by them."""

from nearanswer.errors import InvalidBook, InvalidKinding
from nearanswer.kindforms import fits_book, fits_kinding
from nearanswer.kindings import is_instance_of, kinding_from, kinding_put_into, plain_told
from nearanswer.kindstore import KindStore


def is_book(value):
    """Whether any value is a book."""
    return fits_book(value)


def check_book(value):
    if not fits_book(value):
        raise InvalidBook("this is no book")


def check_kinding(book, value):
    if not fits_kinding(book, value):
        raise InvalidKinding("this is no kinding by the book")


def is_kinding(book, value):
    """Whether any value is a kinding by a book."""
    check_book(book)
    return fits_kinding(book, value)


def plain_kinding(book, kinding):
    """The plain kinding that differs from a kinding in indices alone."""
    check_book(book)
    check_kinding(book, kinding)
    return plain_told(kinding)


def is_instance(book, narrow, wide):
    """Whether the first kinding is an instance of the second one."""
    check_book(book)
    check_kinding(book, narrow)
    check_kinding(book, wide)
    store = KindStore()
    kind, row = kinding_put_into(store, wide)
    return is_instance_of(store, kind, row, narrow)


def common_kinding(book, kinding, wide):
    """The plain kinding of which all common instances of two are instances, None if there is none."""
    check_book(book)
    check_kinding(book, kinding)
    check_kinding(book, wide)
    store = KindStore()
    kind, row = kinding_put_into(store, kinding)
    other_kind, other_row = kinding_put_into(store, wide)
    store.unite(kind, other_kind)
    store.unite_rows(row, other_row)
    if not store.holds():
        return None
    return kinding_from(store, kind, row)
