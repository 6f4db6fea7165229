"""Runs of programs in a heap of cells, cleared at any step."""

from nearanswer.checks import check_number, check_program
from nearanswer.clearing import copied, left_by_counts, slid, swept
from nearanswer.errors import InvalidClearing, TooMany
from nearanswer.heapforms import MOST_ITEMS
from nearanswer.heapsteps import change_of, ending_of, settled, settled_words
from nearanswer.unloading import Unloader

CLEARINGS = ("copy", "slide", "sweep", "count", "rings")
NO_CLEARING = "none"


def check_clearing(value, words):
    if type(value) is not str or value not in words:
        raise InvalidClearing("this is no clearing")


def cleared(heap, roots, clearing):
    """The pair of the heap cleared, and of its roots."""
    if clearing == "copy":
        return copied(heap, roots)
    if clearing == "slide":
        return slid(heap, roots)
    if clearing == "count":
        return (left_by_counts(heap, roots), roots)
    # Letting go frees no cell that is reached, so that what is left by freeing the others, too, is what is swept.
    return (swept(heap, roots), roots)


def places_for(heap, many):
    """The places that so many new cells take."""
    free = [at for at, cell in enumerate(heap) if cell is None][:many]
    end = len(heap) + many - len(free)
    if end > MOST_ITEMS:
        raise TooMany(MOST_ITEMS)
    return free + list(range(len(heap), end))


class HeapRun:
    """A run of a program in a heap."""

    def __init__(self, program):
        check_program(program)
        self.doing = ("go", program, None)
        self.top = None
        self.heap = []
        # The length of a run is told by the words of the steps done.
        self.words = []

    def __len__(self):
        """How many steps the run did."""
        return len(self.words)

    def step(self):
        """Does a step and returns its word, or does nothing and returns None at an end."""
        if ending_of(self.doing, self.top, self.heap) is not None:
            return None
        word, doing, top, cells = change_of(self.doing, self.top, self.heap)
        places = places_for(self.heap, len(cells))
        for place, (label, words) in zip(places, cells):
            cell = (label, settled_words(words, places))
            if place < len(self.heap):
                self.heap[place] = cell
            else:
                self.heap.append(cell)
        self.doing = doing[:-1] + (settled(doing[-1], places),)
        self.top = settled(top, places)
        self.words.append(word)
        return word

    def collect(self, clearing):
        """Clears the heap, and returns how many cells go."""
        check_clearing(clearing, CLEARINGS)
        many = self.cells()
        heap, roots = cleared(tuple(self.heap), self.roots(), clearing)
        self.heap = list(heap)
        self.doing = self.doing[:-1] + (roots[0],)
        self.top = roots[1]
        return many - self.cells()

    def roots(self):
        """The pair of the names, or of the value, of what is done, and of the top."""
        return (self.doing[-1], self.top)

    def standing(self):
        """The standing of the run."""
        return (self.doing, self.top, tuple(self.heap))

    def cells(self):
        """How many cells there are."""
        return len([cell for cell in self.heap if cell is not None])

    def end(self):
        """The shown form of the end, None ahead of it."""
        end = ending_of(self.doing, self.top, self.heap)
        if end is None or end[0] == "stuck":
            return end
        return end[:-1] + (Unloader(self.heap).shown_word(end[-1], 1),)

    def unloaded(self):
        """The unloaded tree of the standing."""
        return Unloader(self.heap).standing_tree(self.doing, self.top)


def heap_run(program, most, clearing, every):
    """The shown form of the end, or ("more",), how many steps were done, and the greatest number of cells."""
    check_program(program)
    check_number(most, 0, 2000)
    check_clearing(clearing, CLEARINGS + (NO_CLEARING,))
    check_number(every, 1, 2000)
    run = HeapRun(program)
    greatest = 0
    while len(run) < most and run.step() is not None:
        greatest = max(greatest, run.cells())
        if clearing != NO_CLEARING and len(run) % every == 0:
            run.collect(clearing)
    end = run.end()
    if end is None:
        end = ("more",)
    return (end, len(run), greatest)
