"""Lists of selectors, prepared so that one integer says which of their parts match."""

from treegarb.selectors import LINKS


def mask_of(truths):
    """Return the integer whose bits are the truth values, the first one lowest."""
    return sum([1 << at for at, truth in enumerate(truths) if truth])


def _passes(test, kind, marks):
    """Whether an element with this kind and these marks passes a test."""
    asked, name = test
    if asked == "kind":
        return kind == name
    return name in marks


def _fits(part, kind, marks):
    """Whether a part describes this kind and these marks, whatever the number is."""
    wanted, needed, nots = part[0], part[1], part[2]
    if wanted is not None and wanted != kind:
        return False
    if not all([mark in marks for mark in needed]):
        return False
    return not any([_passes(test, kind, marks) for test in nots])


def _counts(part, number):
    """Whether the pair of a part is met by this number."""
    step, first = part[3], part[4]
    if step == 0:
        return number == first
    return number >= first and (number - first) % step == 0


class Plan:
    """A list of selectors in which each part has a bit of its own.

    A mask is an integer: the parts whose bits it has. An element is said to
    match a part if it matches the selector that is cut behind this part. A view
    of an element is the tuple of the five masks of the parts that it, its
    parent, one of its ancestors, its previous sibling and one of its earlier
    siblings match. A view is open if its first mask says what the element
    matches provided that the element is as each part describes it.
    """

    def __init__(self, selectors):
        self._parts = [part for parts, links in selectors for part in parts]
        self._begins = mask_of([at == 0 for parts, links in selectors for at in range(len(parts))])
        # For each part the link behind it, which is None behind a last part.
        onward = [link for parts, links in selectors for link in (*links, None)]
        self._before = {link: mask_of([other == link for other in onward]) for link in LINKS}
        self.ends = [1 << at for at, link in enumerate(onward) if link is None]
        self.lengths = [len(parts) for parts, links in selectors]

    def fitting(self, kind, marks):
        """Return the mask of the parts that describe this kind and these marks."""
        return mask_of([_fits(part, kind, marks) for part in self._parts])

    def counting(self, number):
        """Return the mask of the parts whose pair is met by this number."""
        return mask_of([_counts(part, number) for part in self._parts])

    def at_root(self):
        """Return the open view of a root."""
        return self._arrived(0, 0, 0, 0)

    def below(self, view):
        """Return the open view of the first child of an element with this view."""
        here, above = view[0], view[2]
        return self._arrived(here, above | here, 0, 0)

    def beside(self, view):
        """Return the open view of the next sibling of an element with this view."""
        here, parent, above, before = view[0], view[1], view[2], view[4]
        return self._arrived(parent, above, here, before | here)

    def _arrived(self, parent, above, previous, before):
        """Return the open view with these masks."""
        linked = (
            (parent & self._before["child"])
            | (above & self._before["inside"])
            | (previous & self._before["next"])
            | (before & self._before["after"])
        )
        # The part behind a link has the bit above that of the part before it.
        return (self._begins | (linked << 1), parent, above, previous, before)
