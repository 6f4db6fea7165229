"""Programs as values."""

from nearanswer.bindings import plain
from nearanswer.checks import check_name, check_number, check_path, check_program, check_value
from nearanswer.errors import InvalidName, InvalidProgram
from nearanswer.moving import answered_by, word_of
from nearanswer.runs import led_on
from nearanswer.texts import read_tree, text_in
from nearanswer.treeforms import fits_path, is_tuple_of, part_by, paths_in, trees_in
from nearanswer.work import holds_value


def tree_in(value):
    """The program of a Code."""
    if not isinstance(value, Code):
        raise InvalidProgram("this is no Code")
    return value.tree


class Code:
    """A program as a value."""

    def __init__(self, program):
        check_program(program)
        self._tree = program

    @classmethod
    def read(cls, value):
        """The program of a text as a value."""
        return cls(read_tree(value))

    @property
    def tree(self):
        """The program."""
        return self._tree

    @property
    def word(self):
        """The word of the next step, None at an end."""
        return word_of(self._tree)

    @property
    def deeds(self):
        """The ascending tuple of the deeds of all dos."""
        return tuple(sorted(set([one[1] for one in trees_in(self._tree) if one[0] == "do"])))

    def __call__(self, other):
        """The call of the one with the other one."""
        return Code(("call", self._tree, tree_in(other)))

    def __add__(self, other):
        return Code(("op", "+", self._tree, tree_in(other)))

    def __sub__(self, other):
        return Code(("op", "-", self._tree, tree_in(other)))

    def __mul__(self, other):
        return Code(("op", "*", self._tree, tree_in(other)))

    def __iadd__(self, other):
        whole = self + other
        self._tree = whole.tree
        return self

    def __or__(self, other):
        """The program with an answerer around it, for a pair of a deed and of the value with which it goes on."""
        if not is_tuple_of(other, 2, 2):
            raise InvalidName("this is no pair that begins with a name")
        deed, value = other
        check_name(deed)
        check_value(value)
        return Code(answered_by(self._tree, deed, value))

    def __rshift__(self, other):
        """The program behind so many steps, or at its end."""
        check_number(other, 0, 400)
        programs, _ = led_on(self._tree, other)
        return Code(programs[-1])

    def __invert__(self):
        """The program with plain names."""
        return Code(plain(self._tree))

    def __getitem__(self, at):
        """The part to which a path leads."""
        check_path(self._tree, at)
        return part_by(self._tree, at)

    def __contains__(self, x):
        """Whether any value is a path of the program."""
        return fits_path(self._tree, x)

    def __iter__(self):
        raise TypeError("a Code is not iterated over")

    def __len__(self):
        """How many paths the program has."""
        return len(paths_in(self._tree))

    def __bool__(self):
        """Whether the program is no value."""
        return not holds_value(self._tree)

    def __str__(self):
        return str(text_in(self._tree, 0))

    def __eq__(self, other):
        """Whether the other one is a program as a value, too, and both programs are alike."""
        return isinstance(other, Code) and plain(self._tree) == plain(other._tree)
