"""The elements of a document that selectors match."""

from treegarb.documents import element_at
from treegarb.plans import Plan


def matches(document, place, selector):
    """Whether the element at a place matches a selector. Raise BadPlace if there is none."""
    element_at(document, place)
    plan = Plan((selector,))
    return plan.views_to(document, place)[-1][0] & plan.ends[0] != 0


def matching(document, selectors):
    """Return the places that match a list of selectors, in the order of `places`."""
    plan = Plan(selectors)
    wanted = sum(plan.ends)
    return [place for place, _, view in plan.views_of(document) if view[0] & wanted != 0]
