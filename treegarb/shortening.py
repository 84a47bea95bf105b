"""Sheets without the declarations that decide nothing in any document."""

from treegarb.deciding import contained
from treegarb.errors import TooMany
from treegarb.selectors import MOST_SELECTORS, weight
from treegarb.sheets import MOST_DECLARATIONS


def single_rules(sheet):
    """Return the sheet in which every rule has one selector."""
    defaults, rules = sheet
    single = [((selector,), declarations) for selectors, declarations in rules for selector in selectors]
    return (defaults, tuple(single))


def _is_contained(selector, others):
    """Whether a selector is found to be contained in a list of others."""
    try:
        answer, _ = contained((selector,), others)
    except TooMany:
        return False
    return answer == "yes"


def _ranked(rules):
    """Return triples of a rank, a property and a selector, the greatest rank first."""
    found = []
    for at, (selectors, declarations) in enumerate(rules):
        selector = selectors[0]
        for position, (name, _, strong) in enumerate(declarations):
            found.append(((int(strong), weight(selector), at, position), name, selector))
    # No two ranks are equal, so nothing behind them is compared.
    return sorted(found, reverse=True)


def dropped(sheet):
    """Return the rules and positions of the declarations that never decide their property.

    Every rule of the sheet has one selector.
    """
    found = []
    # For each property the selectors of its declarations, the greatest rank first.
    greater = {}
    answers = {}
    for rank, name, selector in _ranked(sheet[1]):
        before = greater.setdefault(name, [])
        others = tuple(before[:MOST_SELECTORS])
        # The declarations of a rule often ask the same.
        if (selector, others) not in answers:
            answers[selector, others] = _is_contained(selector, others)
        if answers[selector, others]:
            found.append(rank[2:])
        before.append(selector)
    return sorted(found)


def _joined(rules):
    """Return the rules, of which those that can be joined are joined to the rule before."""
    found = []
    for selectors, declarations in rules:
        before = found[-1][1] if found and found[-1][0] == selectors else None
        if before is not None and len(before) + len(declarations) <= MOST_DECLARATIONS:
            found[-1] = (selectors, before + declarations)
        else:
            found.append((selectors, declarations))
    return tuple(found)


def shorten(sheet):
    """Return a sheet that gives the same styles without the dropped declarations."""
    defaults, rules = single_rules(sheet)
    # A dict is quick to ask, too.
    gone = {pair: True for pair in dropped((defaults, rules))}
    found = []
    for at, (selectors, declarations) in enumerate(rules):
        kept = tuple([row for position, row in enumerate(declarations) if (at, position) not in gone])
        if kept != ():
            found.append((selectors, kept))
    return (defaults, _joined(found))
