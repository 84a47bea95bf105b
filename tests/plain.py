"""The definitions of the document, word by word, to compare the program with.

Nothing here is quick, and nothing here is taken from the program.
"""

import itertools
import math

LINKS = ("child", "inside", "next", "after")


def element(document, place):
    for index in place:
        document = document[2][index]
    return document


def related(place, link):
    """The places that one of the links leads back to (points 102 and 201)."""
    if place == ():
        return []
    above, index = place[:-1], place[-1]
    return {
        "child": [above],
        "inside": [place[:length] for length in range(len(place))],
        "next": [(*above, index - 1)] if index > 0 else [],
        "after": [(*above, earlier) for earlier in range(index)],
    }[link]


def number(place):
    return place[-1] + 1 if place else 1


def describes(document, place, part):
    """Point 200."""
    wanted, needed, nots, step, first = part
    kind, marks, _ = element(document, place)
    if wanted is not None and kind != wanted:
        return False
    if not set(needed) <= set(marks):
        return False
    for asked, name in nots:
        if asked == "kind" and kind == name or asked == "mark" and name in marks:
            return False
    return any(step * n + first == number(place) for n in range(number(place) + 1))


def matches(document, place, selector):
    """Point 201."""
    parts, links = selector
    if not describes(document, place, parts[-1]):
        return False
    if not links:
        return True
    shorter = (parts[:-1], links[:-1])
    return any(matches(document, other, shorter) for other in related(place, links[-1]))


def places(document, place=()):
    found = [place]
    for index in range(len(element(document, place)[2])):
        found.extend(places(document, (*place, index)))
    return found


def matching(document, selectors):
    return [
        place
        for place in places(document)
        if any(matches(document, place, selector) for selector in selectors)
    ]


def letters(first, second):
    """Point 300, without the bound."""
    parts = [part for selector in first + second for part in selector[0]]
    kinds = {part[0] for part in parts} - {None}
    marks = {mark for part in parts for mark in part[1]}
    for part in parts:
        kinds |= {name for asked, name in part[2] if asked == "kind"}
        marks |= {name for asked, name in part[2] if asked == "mark"}
    other = "z"
    while other in kinds:
        other += "z"
    chosen = [
        subset for size in range(len(marks) + 1) for subset in itertools.combinations(sorted(marks), size)
    ]
    found = [(kind, subset) for kind in kinds | {other} for subset in chosen]
    return sorted(found, key=lambda letter: (len(letter[1]), letter[1], letter[0]))


def _frozen(node):
    kind, marks, children = node
    return (kind, marks, tuple(_frozen(child) for child in children))


def walk_document(walk):
    """Point 301, with lists that grow step by step."""
    root = None
    path = []
    place = ()
    for move, (kind, marks) in walk:
        node = [kind, marks, []]
        if move == "root":
            root = node
            path = [node]
        elif move == "down":
            path[-1][2].append(node)
            path.append(node)
            place = (*place, 0)
        else:
            path.pop()
            path[-1][2].append(node)
            path.append(node)
            place = (*place[:-1], place[-1] + 1)
    return (_frozen(root), place)


def counted_pairs(first, second):
    pairs = [part[3:] for selector in first + second for part in selector[0]]
    return [pair for pair in pairs if pair != (1, 0)]


def count(first, second, place):
    pairs = counted_pairs(first, second)
    if not pairs:
        return 0
    turn = math.lcm(1, *[step for step, _ in pairs if step != 0])
    greatest = max(beginning for _, beginning in pairs)
    m = number(place)
    return m if m <= greatest else greatest + 1 + (m - greatest - 1) % turn


def row(document, place, selector):
    parts, links = selector
    cuts = [(parts[: length + 1], links[:length]) for length in range(len(parts))]
    here = tuple(matches(document, place, cut) for cut in cuts)
    others = [
        tuple(any(matches(document, other, cut) for other in related(place, link)) for cut in cuts)
        for link in LINKS
    ]
    return (here, *others)


def state(first, second, walk):
    """Point 303, asked of the document of the walk."""
    document, place = walk_document(walk)
    rows = tuple(row(document, place, selector) for selector in first + second)
    return (1 if place else 0, count(first, second, place), rows)


def is_bad(first, second, walk):
    document, place = walk_document(walk)
    return any(matches(document, place, selector) for selector in first) and not any(
        matches(document, place, selector) for selector in second
    )


def longer(walk, row_of_letters):
    """The walks with one more step, in the order of point 305."""
    if not walk:
        moves = ("root",)
    elif len(walk) == 1:
        moves = ("down",)
    else:
        moves = ("down", "right")
    return [(*walk, (move, letter)) for move in moves for letter in row_of_letters]


def walks(row_of_letters, length):
    """All walks with this number of steps, in the order of point 305."""
    found = [()]
    for _ in range(length):
        found = [more for walk in found for more in longer(walk, row_of_letters)]
    return found


def contained(first, second):
    """Point 305 (without TooMany): only the first walk to each state is continued."""
    row_of_letters = letters(first, second)
    known = {}
    level = longer((), row_of_letters)
    while level:
        fresh = []
        for walk in level:
            reached = state(first, second, walk)
            if reached in known:
                continue
            known[reached] = walk
            if is_bad(first, second, walk):
                return ("no", walk)
            fresh.append(walk)
        level = [more for walk in fresh for more in longer(walk, row_of_letters)]
    return ("yes", tuple(sorted(known)))
