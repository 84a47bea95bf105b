"""The states of walks, as flat tuples of integers that are quick to compare."""

from math import lcm

from treegarb.plans import Plan, mask_of
from treegarb.selectors import EVERY_NUMBER

ROOT = ("root",)
DOWN = ("down",)
DOWN_OR_RIGHT = ("down", "right")
FIELDS = 5


def _pairs(selectors):
    """Return the pairs of the parts that not every number needs to meet."""
    found = [part[3:] for parts, links in selectors for part in parts]
    return [pair for pair in found if pair != EVERY_NUMBER]


def _period(pairs):
    """Return the least common multiple of the steps other than 0."""
    found = 1
    for step, first in pairs:
        if step != 0:
            found = lcm(found, step)
    return found


def _truths(bits, length):
    """Return so many bits as truth values, the lowest one first."""
    return tuple([(bits >> at) & 1 == 1 for at in range(length)])


class Machine:
    """The states of the walks for two lists of selectors.

    A state is here a tuple of the depth, the count, and the five masks of a
    view: the rows of all selectors side by side. A state is open if its view
    is, that is, if nothing is known of the letter of the last step yet. The
    walk without a step has the state None.
    """

    def __init__(self, first, second):
        self._plan = Plan(first + second)
        self._wanted = sum(self._plan.ends[: len(first)])
        self._covering = sum(self._plan.ends[len(first):])
        pairs = _pairs(first + second)
        self._counted = len(pairs) > 0
        self._greatest = max([pair[1] for pair in pairs], default=0)
        self._turn = _period(pairs)
        # The answers of `_told`: a table has few different ones.
        self._truths = {}

    def fitting(self, letter):
        """Return the mask of the parts that describe the letter."""
        kind, marks = letter
        return self._plan.fitting(kind, marks)

    def moves(self, state):
        """Return the moves that may follow a state, in their order."""
        if state is None:
            return ROOT
        # The root has no siblings.
        return DOWN if state[0] == 0 else DOWN_OR_RIGHT

    def after_move(self, state, move):
        """Return the open state after a move."""
        if move == "root":
            return self._opened(0, self._count(1), self._plan.at_root())
        if move == "down":
            return self._opened(1, self._count(1), self._plan.below(state[2:]))
        # A count stands for all numbers that lead to it, also as a number.
        return self._opened(1, self._count(state[1] + 1), self._plan.beside(state[2:]))

    def with_letter(self, state, fit):
        """Return an open state with a letter that these parts describe."""
        return (state[0], state[1], state[2] & fit, *state[3:])

    def is_bad(self, state):
        """Whether the last element matches the first list and not the second one."""
        return state[2] & self._wanted != 0 and state[2] & self._covering == 0

    def to_tuple(self, state):
        """Return a state in the form of point 303."""
        rows = []
        begin = 0
        for length in self._plan.lengths:
            row = [(mask >> begin) & ((1 << length) - 1) for mask in state[2:]]
            rows.append(tuple([self._told(bits, length) for bits in row]))
            begin += length
        return (state[0], state[1], tuple(rows))

    def from_tuple(self, value):
        """Return the state that a tuple of the form of point 303 stands for."""
        depth, count, rows = value
        view = [mask_of([truth for row in rows for truth in row[at]]) for at in range(FIELDS)]
        return (depth, count, *view)

    def is_count(self, value):
        """Whether the number of some element leads to this count."""
        if not self._counted:
            return value == 0
        return 1 <= value <= self._greatest + self._turn

    def sizes(self):
        """Return the numbers of parts of the selectors of both lists."""
        return self._plan.lengths

    def _told(self, bits, length):
        """Return so many bits as truth values, the same tuple for the same bits."""
        if (bits, length) not in self._truths:
            self._truths[bits, length] = _truths(bits, length)
        return self._truths[bits, length]

    def _opened(self, depth, count, view):
        """Return the open state of an element with this count and this open view."""
        return (depth, count, view[0] & self._plan.counting(count), *view[1:])

    def _count(self, number):
        """Return what the parts need to know of a number."""
        if not self._counted:
            return 0
        if number <= self._greatest:
            return number
        return self._greatest + 1 + (number - self._greatest - 1) % self._turn
