"""Whether one list of selectors is contained in another one, on all documents."""

from treegarb.errors import TooMany
from treegarb.forms import is_whole
from treegarb.machine import FIELDS, Machine
from treegarb.walks import letters

MOST_STATES = 1000


def _choices(machine, row):
    """Return pairs of a mask and the first letter that the parts of the mask describe."""
    found = {}
    # Letters that the same parts describe lead to the same states.
    for letter in row:
        found.setdefault(machine.fitting(letter), letter)
    return list(found.items())


def _followers(machine, state, choices):
    """Return the states one step later, with their steps, in the order of point 305."""
    found = []
    for move in machine.moves(state):
        opened = machine.after_move(state, move)
        found.extend([(machine.with_letter(opened, fit), (move, letter)) for fit, letter in choices])
    return found


def _walk_to(reached, state):
    """Return the first walk that leads to a state."""
    walk = []
    at = state
    while at is not None:
        at, step = reached[at]
        walk.append(step)
    return tuple(walk[::-1])


def contained(first, second):
    """Return `yes` and the table of all states, or `no` and the first walk to a bad one."""
    machine = Machine(first, second)
    choices = _choices(machine, letters(first, second))
    # For each state that was met, the state before it and the step between.
    reached = {}
    waiting = [None]
    taken = 0
    while taken < len(waiting):
        before = waiting[taken]
        taken += 1
        for state, step in _followers(machine, before, choices):
            if state in reached:
                continue
            reached[state] = (before, step)
            if machine.is_bad(state):
                return ("no", _walk_to(reached, state))
            if len(reached) > MOST_STATES:
                raise TooMany()
            waiting.append(state)
    return ("yes", tuple(sorted([machine.to_tuple(state) for state in waiting[1:]])))


def _are_truths(value, length):
    """Whether the value is a tuple of so many truth values."""
    if not isinstance(value, tuple) or len(value) != length:
        return False
    return all([isinstance(truth, bool) for truth in value])


def _is_row(value, length):
    """Whether the value is a row for a selector of so many parts."""
    if not isinstance(value, tuple) or len(value) != FIELDS:
        return False
    return all([_are_truths(truths, length) for truths in value])


def _is_state(machine, value):
    """Whether the value has the form of a state."""
    if not isinstance(value, tuple) or len(value) != 3:
        return False
    depth, count, rows = value
    if not is_whole(depth) or not 0 <= depth <= 1:
        return False
    if not is_whole(count) or not machine.is_count(count):
        return False
    sizes = machine.sizes()
    if not isinstance(rows, tuple) or len(rows) != len(sizes):
        return False
    return all([_is_row(row, length) for row, length in zip(rows, sizes)])


def accepts(first, second, table):
    """Whether a table shows that the first list is contained in the second one."""
    machine = Machine(first, second)
    choices = _choices(machine, letters(first, second))
    if not isinstance(table, tuple) or not all([_is_state(machine, value) for value in table]):
        return False
    states = [machine.from_tuple(value) for value in table]
    known = set(states)
    if len(known) != len(states) or any([machine.is_bad(state) for state in states]):
        return False
    for state in [None, *states]:
        for follower, _ in _followers(machine, state, choices):
            if follower not in known:
                return False
    return True
