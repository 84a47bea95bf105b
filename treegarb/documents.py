"""Documents, which are trees, and the places in them."""

from treegarb.errors import BadDocument, BadPlace
from treegarb.forms import is_rising

LONGEST_NAME = 12
MOST_MARKS = 6
MOST_LEVELS = 20
GREATEST_SIZE = 200


def is_name(value):
    """Whether the value is a name: 1 to 12 letters from a to z."""
    if not isinstance(value, str) or not 1 <= len(value) <= LONGEST_NAME:
        return False
    # isalpha and islower would take letters beyond a to z, too.
    return all(["a" <= letter <= "z" for letter in value])


def are_marks(value, most):
    """Whether the value is an ascending tuple of at most so many different names."""
    if not isinstance(value, tuple) or len(value) > most:
        return False
    # Names only are compared: values of different kinds may have no order.
    return all([is_name(mark) for mark in value]) and is_rising(value)


def _is_element(value):
    """Whether the value is an element, whatever its children are."""
    if not isinstance(value, tuple) or len(value) != 3:
        return False
    kind, marks, children = value
    return is_name(kind) and are_marks(marks, MOST_MARKS) and isinstance(children, tuple)


def check_document(value):
    """Return the value if it is a document, otherwise raise BadDocument."""
    # A list instead of recursion: the value may be nested too deep for calls.
    waiting = [(value, 1)]
    size = 0
    while waiting:
        element, level = waiting.pop()
        size += 1
        if size > GREATEST_SIZE or level > MOST_LEVELS or not _is_element(element):
            raise BadDocument()
        waiting.extend([(child, level + 1) for child in element[2]])
    return value


def element_at(document, place):
    """Return the element at a place, or raise BadPlace if there is none."""
    element = document
    for index in place:
        children = element[2]
        # Python would count a negative index from the end.
        if not 0 <= index < len(children):
            raise BadPlace()
        element = children[index]
    return element


def places(document):
    """Return the list of all places, each before those of its descendants."""
    found = []
    # A list instead of recursion: the document of a walk may be very deep.
    waiting = [((), document)]
    while waiting:
        place, element = waiting.pop()
        found.append(place)
        children = element[2]
        # The last entry is taken first, so the first child goes in last.
        for index in reversed(range(len(children))):
            waiting.append(((*place, index), children[index]))
    return found
