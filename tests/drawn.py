"""Selectors, documents and walks that are drawn, always the same ones for a seed."""

LINKS = ("child", "inside", "next", "after")
PAIRS = ((0, 0), (0, 1), (0, 2), (1, 1), (1, 2), (2, 0), (2, 1), (3, 2))


def some_of(draw, row, most):
    return tuple(sorted(draw.sample(row, draw.randint(0, min(most, len(row))))))


def part(draw, kinds="ab", marks="xy", pairs=PAIRS, plain=0.6):
    """A part that has each of its conditions with a chance of 1 - plain."""
    kind = None if draw.random() < plain else draw.choice(kinds)
    needed = () if draw.random() < plain else some_of(draw, marks, 3)
    tests = [("kind", name) for name in kinds] + [("mark", name) for name in marks]
    nots = () if draw.random() < plain else some_of(draw, tests, 3)
    step, first = (1, 0) if draw.random() < plain else draw.choice(pairs)
    return (kind, needed, nots, step, first)


def selector(draw, longest=3, **how):
    length = draw.randint(1, longest)
    links = tuple(draw.choice(LINKS) for _ in range(length - 1))
    return (tuple(part(draw, **how) for _ in range(length)), links)


def selectors(draw, most=2, longest=3, **how):
    return tuple(selector(draw, longest, **how) for _ in range(draw.randint(0, most)))


def document(draw, size=12, kinds="abc", marks="xy"):
    """A document with this number of elements."""
    children = [[]]
    for index in range(1, size):
        children[draw.randrange(index)].append(index)
        children.append([])

    def built(index):
        below = tuple(built(child) for child in children[index])
        return (draw.choice(kinds), some_of(draw, marks, 6), below)

    return built(0)


def walk(draw, row_of_letters, length):
    steps = [("root", draw.choice(row_of_letters))]
    for at in range(1, length):
        move = "down" if at == 1 else draw.choice(("down", "right"))
        steps.append((move, draw.choice(row_of_letters)))
    return tuple(steps)


DEFAULTS = (
    ("color", True, ("word", "black")),
    ("font", True, ("number", 12)),
    ("height", False, ("word", "auto")),
    ("width", False, ("number", 0)),
)
NAMES = ("color", "font", "height", "width", "va", "vb", "vc", "vd")


def value(draw):
    return draw.choice(
        (
            ("word", draw.choice(("red", "green", "blue"))),
            ("number", draw.randint(-9, 9)),
            ("inherit",),
            ("initial",),
            ("use", draw.choice(("va", "vb", "vc", "vd"))),
            ("use", draw.choice(("va", "vb", "vc", "ve"))),
        )
    )


def declarations(draw, most=4, names=NAMES):
    return tuple((draw.choice(names), value(draw), draw.random() < 0.2) for _ in range(draw.randint(0, most)))


def sheet(draw, rules=6, most=2, longest=2, names=NAMES, declared=4, **how):
    """A sheet with this number of rules, each with one selector at least."""
    found = []
    for _ in range(rules):
        row = (selector(draw, longest, **how), *selectors(draw, most - 1, longest, **how))
        found.append((row, declarations(draw, declared, names)))
    return (DEFAULTS, tuple(found))


def place(draw, tree):
    """The place of an element, with a deep one as likely as one near the root."""
    found = ()
    while tree[2] and draw.random() < 0.8:
        index = draw.randrange(len(tree[2]))
        found = (*found, index)
        tree = tree[2][index]
    return found


def change(draw, tree, kinds="abc", marks="xy", size=3):
    """A change of a document, which may be an error if the root is drawn to be removed."""
    move = draw.choice(("mark", "insert", "remove"))
    spot = place(draw, tree)
    if move == "mark":
        return (move, spot, some_of(draw, marks, 6))
    if move == "remove":
        return (move, spot)
    node = tree
    for index in spot:
        node = node[2][index]
    return (move, spot, draw.randint(0, len(node[2])), document(draw, draw.randint(1, size), kinds, marks))
