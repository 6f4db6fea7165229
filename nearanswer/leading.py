"""What leading programs by trees of deeds and by what comes next have in common, told without checks of arguments.

New names begin with a capital, so that they are unlike all names of programs; at last, all are given plain names.
"""

from nearanswer.bindings import plain
from nearanswer.checks import check_bounds
from nearanswer.errors import TooMany
from nearanswer.treeforms import trees_in

# The match of what an answerer is led to has a row for each of its rows, and one more.
MOST_LED_ROWS = 5
PART_NAMES = ("One", "Two", "Three", "Four")


def used(name):
    """The tree that uses a name."""
    return ("name", name)


def done(tree):
    return ("shape", "Done", (tree,))


def tag_of(deed):
    """The tag of a deed."""
    return deed[0].upper() + deed[1:]


def deed_shape(deed):
    return ("shape", tag_of(deed), ())


def did(deed, value, rest):
    return ("shape", "Did", (deed, value, rest))


def gone_on():
    """The rest of the deed of an answerer's match, with this answerer around."""
    return ("fun", "Again", ("call", used("Go"), ("call", used("Rest"), used("Again"))))


def answerer_match(pair, rows, behind):
    """A match of a done plan, and of a done deed with its rest, with the bodies that an answerer is led to.

    The pair and the rows are those of the answerer, with these bodies; behind is for deeds that it has no row for.
    """
    cases = []
    for deed, entry, rest, body in rows:
        inner = ("let", entry, used("Value"), ("let", rest, gone_on(), body))
        cases.append((("shapeis", tag_of(deed), ()), inner))
    cases.append((("any",), behind))
    return plan_match(pair, ("match", used("Deed"), tuple(cases)))


def plan_match(pair, deed_body):
    """A match of a plan with a row for its value, told by a pair (name, body), and one for a deed."""
    bound = (("bind", "Deed"), ("bind", "Value"), ("bind", "Rest"))
    done_row = (("shapeis", "Done", (("bind", pair[0]),)), pair[1])
    return ("match", used("Plan"), (done_row, (("shapeis", "Did", bound), deed_body)))


def has_deeds(tree):
    return any([one[0] == "do" or one[0] == "answer" for one in trees_in(tree)])


def check_led_rows(program):
    """TooMany for an answerer with more rows than can be led."""
    for one in trees_in(program):
        if one[0] == "answer" and len(one[3]) > MOST_LED_ROWS:
            raise TooMany(MOST_LED_ROWS)


def with_led_names(tree):
    """A program to which one is led, with plain names."""
    check_bounds(tree)
    return plain(tree)
