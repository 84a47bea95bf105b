"""The form of selectors and of lists of selectors, and their weight."""

from treegarb.documents import are_marks, is_name
from treegarb.errors import BadSelector
from treegarb.forms import is_rising, is_whole

LINKS = ("child", "inside", "next", "after")
TESTED = ("kind", "mark")
EVERY_NUMBER = (1, 0)
MOST_SELECTORS = 6
MOST_PARTS = 5
MOST_MARKS = 3
MOST_TESTS = 3
GREATEST_STEP = 6


def _is_test(value):
    """Whether the value is a test: a kind or a mark not to have."""
    if not isinstance(value, tuple) or len(value) != 2:
        return False
    return value[0] in TESTED and is_name(value[1])


def _are_tests(value):
    """Whether the value is an ascending tuple of at most 3 different tests."""
    if not isinstance(value, tuple) or len(value) > MOST_TESTS:
        return False
    # Tests only are compared: values of different kinds may have no order.
    return all([_is_test(test) for test in value]) and is_rising(value)


def _is_count(value):
    """Whether the value may be the step or the first of a part."""
    return is_whole(value) and 0 <= value <= GREATEST_STEP


def _is_part(value):
    """Whether the value is a part of a selector."""
    if not isinstance(value, tuple) or len(value) != 5:
        return False
    kind, marks, nots, step, first = value
    return (
        (kind is None or is_name(kind))
        and are_marks(marks, MOST_MARKS)
        and _are_tests(nots)
        and _is_count(step)
        and _is_count(first)
    )


def _is_selector(value):
    """Whether the value is a selector."""
    if not isinstance(value, tuple) or len(value) != 2:
        return False
    parts, links = value
    if not isinstance(parts, tuple) or not isinstance(links, tuple):
        return False
    if not 1 <= len(parts) <= MOST_PARTS or len(links) != len(parts) - 1:
        return False
    return all([_is_part(part) for part in parts]) and all([link in LINKS for link in links])


def check_selector(value):
    """Return the value if it is a selector, otherwise raise BadSelector."""
    if not _is_selector(value):
        raise BadSelector()
    return value


def check_list(value):
    """Return the value if it is a list of selectors, otherwise raise BadSelector."""
    if not isinstance(value, tuple) or len(value) > MOST_SELECTORS:
        raise BadSelector()
    for selector in value:
        check_selector(selector)
    return value


def _part_weight(part):
    """Return the marks and the kinds that a part adds to the weight."""
    kind, marks, nots, step, first = part
    tested = [test[0] for test in nots]
    by_number = 0 if (step, first) == EVERY_NUMBER else 1
    by_kind = 0 if kind is None else 1
    return (len(marks) + tested.count("mark") + by_number, tested.count("kind") + by_kind)


def weight(selector):
    """Return the weight of a selector: the pair of its marks and its kinds."""
    weights = [_part_weight(part) for part in selector[0]]
    return (sum([pair[0] for pair in weights]), sum([pair[1] for pair in weights]))
