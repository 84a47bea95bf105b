"""A document that changes, and its styles that change with it."""

from treegarb.cascade import Cascade
from treegarb.documents import check_document, element_at
from treegarb.errors import BadPlace, StyleError
from treegarb.selectors import EVERY_NUMBER

SIDEWAYS = ("next", "after")


class Branch:
    """An element of a document that changes, with the view and the look it has now."""

    def __init__(self, kind, marks):
        self.kind = kind
        self.marks = marks
        self.children = []
        self.view = None
        self.look = None


def _grown(element):
    """Return the branch of an element, with those of its descendants."""
    root = Branch(element[0], element[1])
    waiting = [(root, element[2])]
    while waiting:
        branch, below = waiting.pop()
        for kind, marks, children in below:
            child = Branch(kind, marks)
            branch.children.append(child)
            waiting.append((child, children))
    return root


def _replaced(document, place, element):
    """Return the document with another element at a place."""
    way = [element_at(document, place[:length]) for length in range(len(place))]
    found = element
    for (kind, marks, children), index in zip(way[::-1], place[::-1]):
        found = (kind, marks, (*children[:index], found, *children[index + 1:]))
    return found


class Engine:
    """A document with its styles, which are kept up to date while it changes."""

    def __init__(self, sheet, document):
        selectors = [selector for rule in sheet[1] for selector in rule[0]]
        pairs = [part[3:] for parts, _ in selectors for part in parts]
        self._cascade = Cascade(sheet)
        # Whether an element may match by its earlier siblings, or by their number, too.
        self._by_siblings = any([link in SIDEWAYS for _, links in selectors for link in links])
        self._by_order = self._by_siblings or any([pair != EVERY_NUMBER for pair in pairs])
        self._document = document
        # The root is the only child of the ground, which is no element.
        ground = Branch("", ())
        ground.look = self._cascade.ground
        ground.children.append(_grown(document))
        self._ground = ground
        self._recompute(ground, 0, 1)

    def document(self):
        """Return the document as it is now."""
        return self._document

    def styles(self):
        """Return the styles of all elements, in the order of `places`."""
        found = []
        waiting = list(self._ground.children)
        while waiting:
            branch = waiting.pop()
            found.append(branch.look[1])
            # The last entry is taken first, so the first child goes in last.
            waiting.extend(branch.children[::-1])
        return found

    def apply(self, change):
        """Perform a change and return the number of recomputed elements."""
        move, place = change[0], change[1]
        element = element_at(self._document, place)
        if move == "mark":
            return self._mark(place, element, change[2])
        if move == "insert":
            return self._insert(place, element, change[2], change[3])
        if move == "remove":
            return self._remove(place)
        raise StyleError()

    def _mark(self, place, element, marks):
        """Replace the marks of an element."""
        self._replace(place, (element[0], marks, element[2]))
        above, index = self._spot(place)
        branch = above.children[index]
        branch.marks = marks
        end = len(above.children) if self._by_siblings else index + 1
        return self._recompute(above, index, end)

    def _insert(self, place, element, index, fresh):
        """Insert an element with its descendants."""
        kind, marks, children = element
        if not 0 <= index <= len(children):
            raise BadPlace()
        self._replace(place, (kind, marks, (*children[:index], fresh, *children[index:])))
        around, last = self._spot(place)
        above = around.children[last]
        above.children.insert(index, _grown(fresh))
        end = len(above.children) if self._by_order else index + 1
        return self._recompute(above, index, end)

    def _remove(self, place):
        """Remove an element with its descendants."""
        if place == ():
            raise BadPlace()
        kind, marks, children = element_at(self._document, place[:-1])
        above, index = self._spot(place)
        self._replace(place[:-1], (kind, marks, (*children[:index], *children[index + 1:])))
        del above.children[index]
        end = len(above.children) if self._by_order else index
        return self._recompute(above, index, end)

    def _replace(self, place, element):
        """Replace an element of the document, if the result is a document."""
        self._document = check_document(_replaced(self._document, place, element))

    def _spot(self, place):
        """Return the branch above that of a place, and the index among its children."""
        way = (0, *place)
        above = self._ground
        for index in way[:-1]:
            above = above.children[index]
        return (above, way[-1])

    def _opened(self, above, index):
        """Return the open view of a child."""
        plan = self._cascade.plan
        if index > 0:
            return plan.beside(above.children[index - 1].view)
        return plan.at_root() if above.view is None else plan.below(above.view)

    def _recompute(self, above, begin, end):
        """Recompute some children of a branch with their descendants, and return how many."""
        computed = 0
        waiting = [(above, begin, end)]
        while waiting:
            parent, low, high = waiting.pop()
            for index in range(low, high):
                child = parent.children[index]
                opened = self._opened(parent, index)
                child.view = self._cascade.plan.seen(opened, child.kind, child.marks, index + 1)
                child.look = self._cascade.look_of(child.view, parent.look)
                computed += 1
                waiting.append((child, 0, len(child.children)))
        return computed
