"""The forms of kinds, deed rows, kindings and books, told without raising errors."""

from nearanswer.treeforms import are_unlike, begins_with_word, is_integer, is_name, is_tag, is_tuple_of

MOST_INDEX = 99
MOST_KINDING = 400
MOST_KINDING_DEPTH = 60
MOST_BOOK_KIND = 20
TRUTH = ("truth", 0, (("No", ()), ("Yes", ())))


def sorts_told(sorts):
    """The table of how many kinds each sort of a book has, with that of the truth."""
    table = {sort[0]: sort[1] for sort in sorts}
    table[TRUTH[0]] = TRUTH[1]
    return table


def tags_told(book):
    """The table of the triples (sort, many, kinds) of all tags of a book."""
    table = {}
    for name, many, tags in book[0] + (TRUTH,):
        for tag, kinds in tags:
            table[tag] = (name, many, kinds)
    return table


def deeds_told(book):
    """The table of the pairs (asked, answered) of all deeds of a book."""
    return {deed: (asked, answered) for deed, asked, answered in book[1]}


def is_deed_row(value, deeds):
    """Whether any value is a deed row with these deeds alone."""
    if not is_tuple_of(value, 2, 2) or type(value[0]) is not tuple:
        return False
    if not all([type(deed) is str and deed in deeds for deed in value[0]]):
        return False
    return value[0] == tuple(sorted(value[0])) and is_tail(value[1])


def is_tail(value):
    return value is None or is_integer(value, 0, MOST_INDEX)


def has_kind_form(value, sorts, deeds):
    """Whether a value is a kind as far as can be seen without looking into its kinds."""
    if not begins_with_word(value):
        return False
    word = value[0]
    if word == "num":
        return len(value) == 1
    if word == "fun":
        return len(value) == 4 and is_deed_row(value[2], deeds)
    if word == "open":
        return len(value) == 2 and is_integer(value[1], 0, MOST_INDEX)
    if word != "sort" or len(value) != 3 or type(value[1]) is not str or value[1] not in sorts:
        return False
    return is_tuple_of(value[2], sorts[value[1]], sorts[value[1]])


def kinds_in(kind):
    """The kinds that stand directly in a kind."""
    if kind[0] == "fun":
        return [kind[1], kind[3]]
    if kind[0] == "sort":
        return list(kind[2])
    return []


def fits_kind(value, sorts, deeds, size, depth):
    """Whether any value is a kind with these sorts and deeds alone, of at most such a size and depth."""
    many = 0
    waiting = [(value, 1)]
    while waiting:
        one, deep = waiting.pop()
        many = many + 1
        if many > size or deep > depth or not has_kind_form(one, sorts, deeds):
            return False
        if one[0] == "fun":
            many = many + len(one[2][0])
        waiting.extend([(part, deep + 1) for part in kinds_in(one)])
    return many <= size


def fits_kinding(book, value):
    """Whether any value is a kinding by a book."""
    if not is_tuple_of(value, 2, 2):
        return False
    sorts = sorts_told(book[0])
    deeds = deeds_told(book)
    if not is_deed_row(value[1], deeds):
        return False
    return fits_kind(value[0], sorts, deeds, MOST_KINDING - len(value[1][0]), MOST_KINDING_DEPTH)


def open_marks(kind):
    """The open kinds and tails of a kind in the order in which they stand in it, as ("open" or "tail", index)."""
    marks = []
    waiting = [kind]
    while waiting:
        one = waiting.pop()
        if one[0] == "open" or one[0] == "tail":
            marks.append(one)
        elif one[0] == "fun":
            waiting.extend([one[3]] + tail_marks(one[2]) + [one[1]])
        else:
            waiting.extend(kinds_in(one)[::-1])
    return marks


def tail_marks(row):
    """The mark of the tail of a deed row, in a list; an empty one if the row is closed."""
    if row[1] is None:
        return []
    return [("tail", row[1])]


def fits_book(value):
    """Whether any value is a book."""
    if not is_tuple_of(value, 2, 2):
        return False
    if not is_tuple_of(value[0], 0, 8) or not all([has_sort_form(sort) for sort in value[0]]):
        return False
    if not is_tuple_of(value[1], 0, 12) or not all([has_deed_form(deed) for deed in value[1]]):
        return False
    if not are_ascending([sort[0] for sort in value[0]]) or not are_ascending([deed[0] for deed in value[1]]):
        return False
    if not are_unlike([pair[0] for sort in value[0] + (TRUTH,) for pair in sort[2]]):
        return False
    return has_book_kinds(value)


def are_ascending(rows):
    """Whether each item is smaller than the next one, by Python's order."""
    return all([one < other for one, other in zip(rows, rows[1:])])


def has_sort_form(value):
    """Whether a value is a sort as far as can be seen without looking into its kinds."""
    if not is_tuple_of(value, 3, 3) or not is_name(value[0]) or value[0] == TRUTH[0]:
        return False
    if not is_integer(value[1], 0, 2) or not is_tuple_of(value[2], 1, 6):
        return False
    for pair in value[2]:
        if not is_tuple_of(pair, 2, 2) or not is_tag(pair[0]) or not is_tuple_of(pair[1], 0, 4):
            return False
    return True


def has_deed_form(value):
    return is_tuple_of(value, 3, 3) and is_name(value[0])


def has_book_kinds(book):
    """Whether the kinds in what is a book otherwise are as they must be."""
    sorts = sorts_told(book[0])
    deeds = deeds_told(book)
    for _, many, tags in book[0]:
        for _, kinds in tags:
            if not all([is_book_kind(kind, sorts, deeds, many) for kind in kinds]):
                return False
    for _, asked, answered in book[1]:
        if not is_book_kind(asked, sorts, deeds, 0) or not is_book_kind(answered, sorts, deeds, 0):
            return False
    return True


def is_book_kind(value, sorts, deeds, many):
    """Whether a value is a kind that may stand in a book, with so many open kinds."""
    if not fits_kind(value, sorts, deeds, MOST_BOOK_KIND, MOST_BOOK_KIND):
        return False
    return all([word == "open" and index < many for word, index in open_marks(value)])
