"""Parts 4 and 5 of the document, word by word, to compare the program with.

Nothing here is quick, and nothing here is taken from the program.
"""

import plain

SIDEWAYS = ("next", "after")


def weight(selector):
    """Point 203."""
    marks = kinds = 0
    for kind, needed, nots, step, first in selector[0]:
        marks += len(needed) + sum(asked == "mark" for asked, _ in nots) + ((step, first) != (1, 0))
        kinds += (kind is not None) + sum(asked == "kind" for asked, _ in nots)
    return (marks, kinds)


def competing(sheet, document, place, name):
    """Point 401: the ranks and the values of the declarations that compete."""
    found = []
    for at, (selectors, declarations) in enumerate(sheet[1]):
        weights = [weight(one) for one in selectors if plain.matches(document, place, one)]
        for position, (other, value, strong) in enumerate(declarations):
            if weights and other == name:
                found.append(((1 if strong else 0, max(weights), at, position), value))
    return found


def decided(sheet, document, place, name):
    """The rank and the value of the deciding declaration, or None."""
    return max(competing(sheet, document, place, name), key=lambda pair: pair[0], default=None)


def deciding(sheet, document, place, name):
    found = decided(sheet, document, place, name)
    return None if found is None else found[0][2:]


def variable(sheet, document, place, name, users=()):
    """Point 402: the value of a variable, or None. The users are those that led here."""
    if name in users:
        return None
    found = decided(sheet, document, place, name)
    value = ("inherit",) if found is None else found[1]
    if value == ("inherit",):
        return None if place == () else variable(sheet, document, place[:-1], name)
    if value == ("initial",):
        return None
    if value[0] == "use":
        return variable(sheet, document, place, value[1], (*users, name))
    return value


def value_of(sheet, document, place, default):
    """Point 402: the value of a property with a default."""
    name, inherited, initial = default
    found = decided(sheet, document, place, name)
    if found is None:
        value = ("inherit",) if inherited and place != () else ("initial",)
    else:
        value = found[1]
    if value == ("inherit",):
        return initial if place == () else value_of(sheet, document, place[:-1], default)
    if value == ("initial",):
        return initial
    if value[0] == "use":
        used = variable(sheet, document, place, value[1])
        return initial if used is None else used
    return value


def style_of(sheet, document, place):
    return tuple((default[0], value_of(sheet, document, place, default)) for default in sheet[0])


def styles(sheet, document):
    return [style_of(sheet, document, place) for place in plain.places(document)]


def _thawed(element):
    kind, marks, children = element
    return [kind, marks, [_thawed(child) for child in children]]


def _frozen(node):
    kind, marks, children = node
    return (kind, marks, tuple(_frozen(child) for child in children))


def _node(root, place):
    for index in place:
        root = root[2][index]
    return root


def changed(document, change):
    """Point 404: the document after a change that is no error."""
    root = _thawed(document)
    if change[0] == "mark":
        _node(root, change[1])[1] = change[2]
    elif change[0] == "insert":
        _node(root, change[1])[2].insert(change[2], _thawed(change[3]))
    else:
        del _node(root, change[1][:-1])[2][change[1][-1]]
    return _frozen(root)


def _at_or_below(place, top):
    return place[: len(top)] == top


def affected(sheet, document, change):
    """Point 404: the places, after the change, of the affected elements."""
    selectors = [selector for rule in sheet[1] for selector in rule[0]]
    sideways = any(link in SIDEWAYS for selector in selectors for link in selector[1])
    paired = any(part[3:] != (1, 0) for selector in selectors for part in selector[0])
    after = plain.places(changed(document, change))
    if change[0] == "mark":
        spot, own, later = change[1], True, sideways
    elif change[0] == "insert":
        spot, own, later = (*change[1], change[2]), True, sideways or paired
    else:
        spot, own, later = change[1], False, sideways or paired
    # What stood behind a removed element stands in its place, or behind it, now.
    tops = [spot] if own else []
    if later and spot != ():
        behind = spot[-1] + 1 if own else spot[-1]
        tops.extend([place for place in after if place[:-1] == spot[:-1] and place != () and place[-1] >= behind])
    return [place for place in after if any(_at_or_below(place, top) for top in tops)]


def single_rules(sheet):
    """Point 501."""
    rules = []
    for selectors, declarations in sheet[1]:
        for selector in selectors:
            rules.append(((selector,), declarations))
    return (sheet[0], tuple(rules))


def greater(sheet, rule, position):
    """Point 502: the selectors of the declarations of the same property with a greater rank."""
    ranks = []
    for at, (selectors, declarations) in enumerate(sheet[1]):
        for index, (name, _, strong) in enumerate(declarations):
            rank = (1 if strong else 0, weight(selectors[0]), at, index)
            ranks.append((rank, name, selectors[0]))
    own = next(entry for entry in ranks if entry[0][2:] == (rule, position))
    above = [entry for entry in ranks if entry[1] == own[1] and entry[0] > own[0]]
    return [entry[2] for entry in sorted(above, key=lambda entry: entry[0], reverse=True)]


def dropped(sheet, is_contained):
    """Point 502, for a function that says whether `contained` says yes."""
    return [
        (at, position)
        for at, (selectors, declarations) in enumerate(sheet[1])
        for position in range(len(declarations))
        if is_contained((selectors[0],), tuple(greater(sheet, at, position)[:6]))
    ]


def shorten(sheet, is_contained):
    """Point 503."""
    single = single_rules(sheet)
    gone = dropped(single, is_contained)
    rules = []
    for at, (selectors, declarations) in enumerate(single[1]):
        left = [entry for position, entry in enumerate(declarations) if (at, position) not in gone]
        if left and rules and rules[-1][0] == selectors and len(rules[-1][1]) + len(left) <= 8:
            rules[-1][1].extend(left)
        elif left:
            rules.append((selectors, left))
    return (sheet[0], tuple((selectors, tuple(left)) for selectors, left in rules))
