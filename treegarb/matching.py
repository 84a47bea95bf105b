"""The elements of a document that selectors match."""

from treegarb.documents import element_at
from treegarb.plans import Plan


def _views(plan, siblings, start):
    """Return the views of siblings, given the open view of the first one."""
    found = []
    opened = start
    for index, element in enumerate(siblings):
        described = plan.fitting(element[0], element[1]) & plan.counting(index + 1)
        view = (opened[0] & described, *opened[1:])
        found.append(view)
        opened = plan.beside(view)
    return found


def _view_at(plan, document, place):
    """Return the view of the element at a place."""
    view = _views(plan, (document,), plan.at_root())[0]
    element = document
    for index in place:
        # Later siblings have no say in what an element matches.
        view = _views(plan, element[2][: index + 1], plan.below(view))[index]
        element = element[2][index]
    return view


def matches(document, place, selector):
    """Whether the element at a place matches a selector. Raise BadPlace if there is none."""
    element_at(document, place)
    plan = Plan((selector,))
    return _view_at(plan, document, place)[0] & plan.ends[0] != 0


def matching(document, selectors):
    """Return the places that match a list of selectors, in the order of `places`."""
    plan = Plan(selectors)
    wanted = sum(plan.ends)
    found = []
    # A list instead of recursion: the document of a walk may be very deep.
    waiting = [((), document, _view_at(plan, document, ()))]
    while waiting:
        place, element, view = waiting.pop()
        if view[0] & wanted != 0:
            found.append(place)
        children = element[2]
        views = _views(plan, children, plan.below(view))
        # The last entry is taken first, so the first child goes in last.
        for index in reversed(range(len(children))):
            waiting.append(((*place, index), children[index], views[index]))
    return found
