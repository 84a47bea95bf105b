"""The four promises of point 2, over the whole program."""

import random
import unittest

import drawn
import plain
import plainstyles
from treegarb.cascade import deciding, styles
from treegarb.deciding import accepts, contained
from treegarb.documents import check_document, places
from treegarb.engine import Engine
from treegarb.errors import BadDocument, BadPlace, TooMany
from treegarb.matching import matches, matching
from treegarb.notation import parse_selectors, selectors_text
from treegarb.sheets import check_sheet
from treegarb.shortening import dropped, shorten, single_rules
from treegarb.walks import letters, walk_document

NARROW = {"kinds": "a", "marks": "x", "pairs": ((0, 1), (0, 2), (2, 0), (1, 2)), "plain": 0.75}
PROPERTIES = ("color", "width", "va")


def small_sheet(seed, rules=5, longest=2):
    """A sheet of few kinds and marks, in which many declarations never decide anything."""
    return check_sheet(drawn.sheet(random.Random(seed), rules, 2, longest, PROPERTIES, **NARROW))


def drawn_documents(seed, many, size=12):
    draw = random.Random(seed)
    return [drawn.document(draw, draw.randint(1, size), "az", "xy") for _ in range(many)]


def small_documents(steps):
    """The documents of all walks of at most so many steps, for the letters of small sheets."""
    row = [("a", ()), ("z", ()), ("a", ("x",)), ("z", ("x",))]
    return [walk_document(walk)[0] for length in range(1, steps + 1) for walk in plain.walks(row, length)]


def is_too_much(first, second):
    try:
        contained(first, second)
    except TooMany:
        return True
    return False


class Contained(unittest.TestCase):
    """1. The table is accepted and true; the document is one against it, and a smallest one."""

    def questions(self):
        for seed in range(120):
            rules = small_sheet(seed, 3)[1]
            for first in rules:
                for second in rules:
                    yield seed, first[0], second[0]
            yield seed, rules[0][0], rules[1][0] + rules[2][0]

    def test_yes(self):
        answers = 0
        for seed, first, second in self.questions():
            try:
                answer, table = contained(first, second)
            except TooMany:
                continue
            if answer == "no":
                continue
            answers += 1
            self.assertIs(accepts(first, second, table), True)
            for tree in drawn_documents(seed, 4):
                self.assertLessEqual(set(matching(tree, first)), set(matching(tree, second)))
        self.assertGreater(answers, 300)

    def test_no(self):
        answers = 0
        for seed, first, second in self.questions():
            try:
                answer, walk = contained(first, second)
            except TooMany:
                continue
            if answer == "yes":
                continue
            answers += 1
            tree, place = walk_document(walk)
            self.assertIs(check_document(tree), tree)
            self.assertEqual(len(places(tree)), len(walk))
            self.assertTrue(any(matches(tree, place, selector) for selector in first))
            self.assertFalse(any(matches(tree, place, selector) for selector in second))
            self.assertIn(place, plain.matching(tree, first))
            self.assertNotIn(place, plain.matching(tree, second))
            for length in range(1, min(len(walk), 3)):
                for shorter in plain.walks(letters(first, second), length):
                    self.assertFalse(plain.is_bad(first, second, shorter))
        self.assertGreater(answers, 300)

    def test_a_table_is_not_accepted_for_another_question(self):
        for one, other in (("a", "*"), ("a b", "* b"), ("*:2+0", "* + *")):
            first, second = parse_selectors(one), parse_selectors(other)
            answer, table = contained(first, second)
            self.assertEqual(answer, "yes")
            self.assertIs(accepts(first, second, table), True)
            self.assertIs(accepts(second, first, table), False)
            self.assertIs(accepts(first, second, table[1:]), False)

    def test_the_text_of_what_was_asked(self):
        for _, first, second in self.questions():
            for selectors in (first, second):
                self.assertEqual(parse_selectors(selectors_text(selectors)), selectors)


class Shortened(unittest.TestCase):
    """2. The shortened sheet gives every element of every document the same style."""

    def test_drawn_documents(self):
        shorter = 0
        for seed in range(200, 260):
            one = small_sheet(seed, 8)
            found = shorten(one)
            many = sum(len(declarations) for _, declarations in single_rules(one)[1])
            shorter += many - sum(len(declarations) for _, declarations in found[1])
            for tree in drawn_documents(seed, 10):
                self.assertEqual(styles(found, tree), styles(one, tree))
        self.assertGreater(shorter, 200)

    def test_all_small_documents(self):
        trees = small_documents(3)
        for seed in range(260, 300):
            one = small_sheet(seed, 6)
            found = shorten(one)
            for tree in trees:
                self.assertEqual(styles(found, tree), styles(one, tree))

    def test_wide_sheets(self):
        for seed in range(10):
            draw = random.Random(seed)
            one = check_sheet(drawn.sheet(draw, 20, 4, 3, declared=8, plain=0.8))
            found = shorten(one)
            for _ in range(8):
                tree = drawn.document(draw, 40)
                self.assertEqual(styles(found, tree), styles(one, tree))

    def test_by_the_definitions(self):
        for seed in range(300, 320):
            one = small_sheet(seed)
            found = shorten(one)
            for tree in drawn_documents(seed, 3, 6):
                self.assertEqual(plainstyles.styles(found, tree), plainstyles.styles(one, tree))


class Dropped(unittest.TestCase):
    """3. A declaration is dropped exactly if it never decides the value of its property."""

    def test_exactly(self):
        gone = left = 0
        for seed in range(40):
            one = single_rules(small_sheet(seed, 4, 1))
            found = dropped(one)
            for at, (selectors, declarations) in enumerate(one[1]):
                for position in range(len(declarations)):
                    others = tuple(plainstyles.greater(one, at, position))
                    if len(others) > 3 or is_too_much(selectors, others):
                        continue
                    # By a search that knows no limits, and no machine either.
                    answer = plain.contained(selectors, others)[0]
                    self.assertEqual((at, position) in found, answer == "yes")
                    gone += answer == "yes"
                    left += answer == "no"
        self.assertGreater(gone, 40)
        self.assertGreater(left, 40)

    def test_what_decides_in_small_documents_is_kept(self):
        trees = small_documents(2) + small_documents(3)[::7]
        for seed in range(60, 80):
            one = single_rules(small_sheet(seed))
            found = dropped(one)
            for tree in trees:
                for place in places(tree):
                    for name in PROPERTIES:
                        self.assertNotIn(deciding(one, tree, place, name), found)


class Kept(unittest.TestCase):
    """4. The kept styles are those computed from nothing, by way of the affected elements only."""

    def test_engines_of_a_sheet_and_of_the_shortened_one(self):
        for seed in range(40):
            draw = random.Random(seed)
            one = small_sheet(seed, 6)
            short = shorten(one)
            kept, other = Engine(one, ("a", (), ())), Engine(short, ("a", (), ()))
            for _ in range(25):
                before = kept.document()
                change = drawn.change(draw, before, "az", "xy")
                try:
                    computed = kept.apply(change)
                except (BadPlace, BadDocument):
                    self.assertEqual(change, ("remove", ()))
                    continue
                self.assertEqual(computed, len(plainstyles.affected(one, before, change)))
                self.assertEqual(other.apply(change), len(plainstyles.affected(short, before, change)))
                self.assertEqual(kept.document(), other.document())
                self.assertEqual(kept.styles(), other.styles())
                self.assertEqual(kept.styles(), styles(one, kept.document()))

    def test_elements_that_are_not_affected_keep_their_styles(self):
        for seed in range(60):
            draw = random.Random(seed)
            one = check_sheet(drawn.sheet(draw, 8, 2, 2, plain=draw.choice((0.6, 0.9))))
            tree = drawn.document(draw, 12)
            change = drawn.change(draw, tree)
            if change[0] != "mark":
                continue
            kept = Engine(one, tree)
            before = dict(zip(places(tree), kept.styles()))
            kept.apply(change)
            after = dict(zip(places(tree), kept.styles()))
            affected = plainstyles.affected(one, tree, change)
            for place in places(tree):
                if place not in affected:
                    self.assertEqual(after[place], before[place])


if __name__ == "__main__":
    unittest.main()
