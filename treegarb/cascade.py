"""The declarations that decide the properties of elements, and their styles."""

from treegarb.documents import element_at
from treegarb.plans import Plan
from treegarb.selectors import weight
from treegarb.sheets import INHERIT, INITIAL, is_variable


def _ranks(rules, ends):
    """Return for each rank the mask of the selectors that give it to its declaration."""
    masks = {}
    taken = 0
    for at, (selectors, declarations) in enumerate(rules):
        for selector, end in zip(selectors, ends[taken:]):
            for position, declaration in enumerate(declarations):
                rank = (int(declaration[2]), weight(selector), at, position)
                masks[rank] = masks.get(rank, 0) | end
        taken += len(selectors)
    return masks


def _ranked(rules, ends):
    """Return triples of a mask, a rule and a position, the greatest rank first."""
    # A declaration is in it once for each weight of the selectors of its rule.
    return [(mask, *rank[2:]) for rank, mask in sorted(_ranks(rules, ends).items(), reverse=True)]


def _own_value(declared, name, above):
    """Return what a value other than a use of a variable gives a variable, or None."""
    if declared == INHERIT:
        return above.get(name)
    return None if declared == INITIAL else declared


def _variables(declared, above):
    """Return the values of variables, None for none, from those that the parent has."""
    found = {}
    for name in declared:
        chain = []
        at = name
        while at not in found:
            chain.append(at)
            # A chain that comes back to this variable is a ring, without a value.
            found[at] = None
            value = declared.get(at, INHERIT)
            if value[0] == "use":
                at = value[1]
            else:
                found[at] = _own_value(value, at, above)
        for link in chain:
            found[link] = found[at]
    return found


class Cascade:
    """A sheet, prepared so that the views of elements tell how they look.

    A look is a pair: a dict of the variables that have a value, and the style
    of point 403. The ground is the look that the root has for its parent's.
    """

    def __init__(self, sheet):
        defaults, rules = sheet
        self.plan = Plan([selector for selectors, _ in rules for selector in selectors])
        self.ground = ({}, tuple([(name, value) for name, _, value in defaults]))
        self._defaults = defaults
        self._rules = rules
        self._ranked = _ranked(rules, self.plan.ends)

    def decided(self, view):
        """Return for each decided property the rule and the position of its declaration."""
        found = {}
        for mask, rule, position in self._ranked:
            if view[0] & mask != 0:
                found.setdefault(self._declaration(rule, position)[0], (rule, position))
        return found

    def look_of(self, view, above):
        """Return the look of an element, given its view and the look of its parent."""
        declared = {}
        for name, (rule, position) in self.decided(view).items():
            declared[name] = self._declaration(rule, position)[1]
        named = {name: declared[name] for name in declared if is_variable(name)}
        known = {**above[0], **_variables(named, above[0])}
        variables = {name: known[name] for name in known if known[name] is not None}
        return (variables, self._style(declared, variables, above[1]))

    def _declaration(self, rule, position):
        """Return the declaration at a position of a rule."""
        return self._rules[rule][1][position]

    def _style(self, declared, variables, above):
        """Return the style of an element with these variables, given that of its parent."""
        found = []
        for (name, inherited, default), (_, parental) in zip(self._defaults, above):
            value = declared.get(name, INHERIT if inherited else INITIAL)
            if value == INHERIT:
                value = parental
            elif value == INITIAL:
                value = default
            elif value[0] == "use":
                value = variables.get(value[1], default)
            found.append((name, value))
        return tuple(found)


def deciding(sheet, document, place, name):
    """Return the rule and position of the declaration that decides a property, or None."""
    element_at(document, place)
    cascade = Cascade(sheet)
    return cascade.decided(cascade.plan.views_to(document, place)[-1]).get(name)


def style_of(sheet, document, place):
    """Return the style of the element at a place. Raise BadPlace if there is none."""
    element_at(document, place)
    cascade = Cascade(sheet)
    look = cascade.ground
    for view in cascade.plan.views_to(document, place):
        look = cascade.look_of(view, look)
    return look[1]


def styles(sheet, document):
    """Return the styles of all elements, in the order of `places`."""
    cascade = Cascade(sheet)
    looks = []
    for _, above, view in cascade.plan.views_of(document):
        looks.append(cascade.look_of(view, cascade.ground if above is None else looks[above]))
    return [style for _, style in looks]
