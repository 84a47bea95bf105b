"""Selectors, documents and walks that are drawn, always the same ones for a seed."""

LINKS = ("child", "inside", "next", "after")
PAIRS = ((0, 0), (0, 1), (0, 2), (1, 1), (1, 2), (2, 0), (2, 1), (3, 2))


def some_of(draw, row, most):
    return tuple(sorted(draw.sample(row, draw.randint(0, min(most, len(row))))))


def part(draw, kinds="ab", marks="xy", pairs=PAIRS, plain=0.6):
    """A part that has each of its conditions with a chance of 1 - plain."""
    kind = None if draw.random() < plain else draw.choice(kinds)
    needed = () if draw.random() < plain else some_of(draw, marks, 3)
    tests = [("kind", name) for name in kinds] + [("mark", name) for name in marks]
    nots = () if draw.random() < plain else some_of(draw, tests, 3)
    step, first = (1, 0) if draw.random() < plain else draw.choice(pairs)
    return (kind, needed, nots, step, first)


def selector(draw, longest=3, **how):
    length = draw.randint(1, longest)
    links = tuple(draw.choice(LINKS) for _ in range(length - 1))
    return (tuple(part(draw, **how) for _ in range(length)), links)


def selectors(draw, most=2, longest=3, **how):
    return tuple(selector(draw, longest, **how) for _ in range(draw.randint(0, most)))


def document(draw, size=12, kinds="abc", marks="xy"):
    """A document with this number of elements."""
    children = [[]]
    for index in range(1, size):
        children[draw.randrange(index)].append(index)
        children.append([])

    def built(index):
        below = tuple(built(child) for child in children[index])
        return (draw.choice(kinds), some_of(draw, marks, 6), below)

    return built(0)


def walk(draw, row_of_letters, length):
    steps = [("root", draw.choice(row_of_letters))]
    for at in range(1, length):
        move = "down" if at == 1 else draw.choice(("down", "right"))
        steps.append((move, draw.choice(row_of_letters)))
    return tuple(steps)
