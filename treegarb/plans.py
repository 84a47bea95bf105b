"""Lists of selectors, prepared so that one integer says which of their parts match."""

from treegarb.selectors import LINKS


def mask_of(truths):
    """Return the integer whose bits are the truth values, the first one lowest."""
    return sum([1 << at for at, truth in enumerate(truths) if truth])


def _gathered(entries):
    """Return for each key the mask of its parts, given pairs of an index and a key."""
    found = {}
    for at, key in entries:
        found[key] = found.get(key, 0) | (1 << at)
    return found


def _without(mask, other):
    """Return the mask without the bits of another one."""
    return mask ^ (mask & other)


def _meets(pair, number):
    """Whether a number meets a pair of a step and a first."""
    step, first = pair
    if step == 0:
        return number == first
    return number >= first and (number - first) % step == 0


class Plan:
    """A list of selectors in which each part has a bit of its own.

    A mask is an integer: the parts whose bits it has. An element is said to
    match a part if it matches the selector that is cut behind this part. A view
    of an element is the tuple of the five masks of the parts that it, its
    parent, one of its ancestors, its previous sibling and one of its earlier
    siblings match. A view is open if its first mask says what the element
    matches provided that the element is as each part describes it.
    """

    def __init__(self, selectors):
        numbered = list(enumerate([part for parts, links in selectors for part in parts]))
        # Masks by what they ask, as a sheet may have hundreds of parts.
        self._of_kind = _gathered([(at, part[0]) for at, part in numbered])
        self._needing = _gathered([(at, mark) for at, part in numbered for mark in part[1]])
        self._barring = _gathered([(at, test) for at, part in numbered for test in part[2]])
        self._with_pair = _gathered([(at, part[3:]) for at, part in numbered])
        # The answers of `counting`: the same few numbers are asked about again and again.
        self._met = {}
        self._begins = mask_of([at == 0 for parts, links in selectors for at in range(len(parts))])
        # For each part the link behind it, which is None behind a last part.
        onward = [link for parts, links in selectors for link in (*links, None)]
        self._before = {link: mask_of([other == link for other in onward]) for link in LINKS}
        self.ends = [1 << at for at, link in enumerate(onward) if link is None]
        self.lengths = [len(parts) for parts, links in selectors]

    def fitting(self, kind, marks):
        """Return the mask of the parts that describe this kind and these marks."""
        fits = self._of_kind.get(kind, 0) | self._of_kind.get(None, 0)
        for test in [("kind", kind), *[("mark", mark) for mark in marks]]:
            fits = _without(fits, self._barring.get(test, 0))
        for mark, needing in self._needing.items():
            if mark not in marks:
                fits = _without(fits, needing)
        return fits

    def counting(self, number):
        """Return the mask of the parts whose pair is met by this number."""
        if number not in self._met:
            met = [mask for pair, mask in self._with_pair.items() if _meets(pair, number)]
            self._met[number] = sum(met)
        return self._met[number]

    def at_root(self):
        """Return the open view of a root."""
        return self._arrived(0, 0, 0, 0)

    def below(self, view):
        """Return the open view of the first child of an element with this view."""
        here, above = view[0], view[2]
        return self._arrived(here, above | here, 0, 0)

    def beside(self, view):
        """Return the open view of the next sibling of an element with this view."""
        here, parent, above, before = view[0], view[1], view[2], view[4]
        return self._arrived(parent, above, here, before | here)

    def seen(self, opened, kind, marks, number):
        """Return the view of an element, given its open view, its kind, its marks and its number."""
        return (opened[0] & self.fitting(kind, marks) & self.counting(number), *opened[1:])

    def views(self, siblings, start):
        """Return the views of siblings, given the open view of the first one."""
        found = []
        opened = start
        for index, element in enumerate(siblings):
            view = self.seen(opened, element[0], element[1], index + 1)
            found.append(view)
            opened = self.beside(view)
        return found

    def views_to(self, document, place):
        """Return the views of the elements on the way from the root to a place, both included."""
        found = self.views((document,), self.at_root())
        element = document
        for index in place:
            # Later siblings have no say in what an element matches.
            siblings = element[2][: index + 1]
            found.append(self.views(siblings, self.below(found[-1]))[index])
            element = element[2][index]
        return found

    def views_of(self, document):
        """Return a list of triples in the order of `places`: place, index of the parent, view.

        The index is that of the parent's triple in the list, or None for the root.
        """
        found = []
        # A list instead of recursion: the document of a walk may be very deep.
        waiting = [((), document, None, self.views((document,), self.at_root())[0])]
        while waiting:
            place, element, above, view = waiting.pop()
            at = len(found)
            found.append((place, above, view))
            children = element[2]
            views = self.views(children, self.below(view))
            # The last entry is taken first, so the first child goes in last.
            for index in reversed(range(len(children))):
                waiting.append(((*place, index), children[index], at, views[index]))
        return found

    def _arrived(self, parent, above, previous, before):
        """Return the open view with these masks."""
        linked = (
            (parent & self._before["child"])
            | (above & self._before["inside"])
            | (previous & self._before["next"])
            | (before & self._before["after"])
        )
        # The part behind a link has the bit above that of the part before it.
        return (self._begins | (linked << 1), parent, above, previous, before)
