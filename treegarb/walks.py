"""Walks through documents, and the states that they lead to."""

from itertools import combinations

from treegarb.errors import TooMany
from treegarb.machine import Machine

MOST_MARKS = 4
MOST_KINDS = 5
FURTHER = "z"


def _tested(parts, asked):
    """Return the names in the tests of one sort, `kind` or `mark`."""
    return [name for part in parts for sort, name in part[2] if sort == asked]


def _kinds(parts):
    """Return the kinds that occur in parts, in ascending order."""
    named = [part[0] for part in parts if part[0] is not None]
    return sorted(set(named + _tested(parts, "kind")))


def _marks(parts):
    """Return the marks that occur in parts, in ascending order."""
    needed = [mark for part in parts for mark in part[1]]
    return sorted(set(needed + _tested(parts, "mark")))


def letters(first, second):
    """Return the letters of two lists of selectors, or raise TooMany."""
    parts = [part for row, links in first + second for part in row]
    kinds = _kinds(parts)
    marks = _marks(parts)
    if len(marks) > MOST_MARKS or len(kinds) > MOST_KINDS:
        raise TooMany()
    other = FURTHER
    while other in kinds:
        other = other + FURTHER
    # The combinations of ascending names come in the order of the letters.
    held = [chosen for size in range(len(marks) + 1) for chosen in combinations(marks, size)]
    return [(kind, chosen) for chosen in held for kind in sorted([*kinds, other])]


def _levels(walk):
    """Return the letters of a walk, a list for each level."""
    found = []
    for move, letter in walk:
        if move != "right":
            found.append([])
        found[-1].append(letter)
    return found


def walk_document(walk):
    """Return the document that a walk describes, and the place of its element."""
    levels = _levels(walk)
    below = ()
    # A walk goes down from the last element of a level only.
    for level in reversed(levels):
        kind, marks = level[-1]
        row = [(name, held, ()) for name, held in level[:-1]]
        below = (*row, (kind, marks, below))
    return (below[0], tuple([len(level) - 1 for level in levels[1:]]))


def _continued(machine, state, move, letter):
    """Return the state after one more step, in the form of point 303."""
    return machine.to_tuple(machine.with_letter(machine.after_move(state, move), machine.fitting(letter)))


def start_state(first, second, letter):
    """Return the state of a walk of one step."""
    return _continued(Machine(first, second), None, "root", letter)


def next_state(first, second, state, move, letter):
    """Return the state of a walk that is continued by one step."""
    machine = Machine(first, second)
    return _continued(machine, machine.from_tuple(state), move, letter)


def is_bad(first, second, state):
    """Whether the last element matches the first list and not the second one."""
    machine = Machine(first, second)
    return machine.is_bad(machine.from_tuple(state))
