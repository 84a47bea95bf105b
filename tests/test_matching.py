"""Points 200 to 202: which elements of a document match."""

import copy
import random
import unittest

import drawn
import plain
from treegarb.errors import BadPlace
from treegarb.matching import matches, matching
from treegarb.notation import parse_selectors
from treegarb.selectors import check_selector

EXAMPLE = ("a", (), (("b", ("x",), ()), ("c", (), (("b", (), ()),))))


def part(kind=None, marks=(), nots=(), step=1, first=0):
    return (kind, marks, nots, step, first)


def alone(*fields, **more):
    return ((part(*fields, **more),), ())


def linked(*words):
    """A selector of kinds, with `None` for any, and the links between them."""
    return (tuple(part(kind) for kind in words[::2]), words[1::2])


def row_of(length, kind="b"):
    """A root with so many children."""
    return ("a", (), tuple((kind, (), ()) for _ in range(length)))


def numbers(document, step, first):
    """The numbers of the children of the root that meet a pair."""
    return [place[0] + 1 for place in matching(document, (alone(step=step, first=first),)) if place]


class OnePart(unittest.TestCase):
    def check(self, element, selector, expected):
        """As a root, and as the second child of a root that no selector here matches."""
        check_selector(selector)
        self.assertIs(matches(element, (), selector), expected)
        below = ("other", ("q",), (("other", ("q",), ()), element))
        self.assertIs(matches(below, (1,), selector), expected)

    def test_kind(self):
        self.check(("a", (), ()), alone("a"), True)
        self.check(("b", (), ()), alone("a"), False)
        self.check(("ab", (), ()), alone("a"), False)
        self.check(("a", (), ()), alone("ab"), False)
        self.check(("b", ("a",), ()), alone("a"), False)

    def test_any_kind(self):
        for kind in ("a", "b", "z"):
            self.check((kind, (), ()), alone(), True)
            self.check((kind, ("x",), ()), alone(marks=("x",)), True)

    def test_marks(self):
        self.check(("a", ("x",), ()), alone(marks=("x",)), True)
        self.check(("a", ("w", "x", "y", "z"), ()), alone(marks=("w", "z")), True)
        self.check(("a", ("x",), ()), alone(marks=("x", "y")), False)
        self.check(("a", ("y",), ()), alone(marks=("x", "y")), False)
        self.check(("a", (), ()), alone(marks=("x",)), False)
        self.check(("x", (), ()), alone(marks=("x",)), False)
        self.check(("a", ("xy",), ()), alone(marks=("x",)), False)
        self.check(("a", ("x",), ()), alone("b", ("x",)), False)
        self.check(("a", ("x", "y"), ()), alone("a", ("x", "y")), True)

    def test_tests_for_a_kind(self):
        not_a = alone(nots=(("kind", "a"),))
        self.check(("a", (), ()), not_a, False)
        self.check(("b", (), ()), not_a, True)
        self.check(("b", ("a",), ()), not_a, True)
        neither = alone(nots=(("kind", "a"), ("kind", "b")))
        self.check(("a", (), ()), neither, False)
        self.check(("b", (), ()), neither, False)
        self.check(("c", (), ()), neither, True)
        self.check(("a", (), ()), alone("a", nots=(("kind", "a"),)), False)

    def test_tests_for_a_mark(self):
        not_x = alone(nots=(("mark", "x"),))
        self.check(("a", ("x",), ()), not_x, False)
        self.check(("a", ("w", "x", "y"), ()), not_x, False)
        self.check(("a", ("w", "y"), ()), not_x, True)
        self.check(("a", (), ()), not_x, True)
        self.check(("x", (), ()), not_x, True)
        self.check(("a", ("x",), ()), alone(marks=("x",), nots=(("mark", "x"),)), False)

    def test_both_kinds_of_tests(self):
        both = alone(marks=("y",), nots=(("kind", "a"), ("mark", "x")))
        self.check(("b", ("y",), ()), both, True)
        self.check(("a", ("y",), ()), both, False)
        self.check(("b", ("x", "y"), ()), both, False)
        self.check(("b", (), ()), both, False)
        self.check(("a", ("x", "y"), ()), both, False)


class Pairs(unittest.TestCase):
    def test_step_0(self):
        self.assertEqual(numbers(row_of(9), 0, 0), [])
        self.assertEqual(numbers(row_of(9), 0, 1), [1])
        self.assertEqual(numbers(row_of(9), 0, 2), [2])
        self.assertEqual(numbers(row_of(9), 0, 6), [6])
        self.assertEqual(numbers(row_of(5), 0, 6), [])

    def test_step_1(self):
        self.assertEqual(numbers(row_of(4), 1, 0), [1, 2, 3, 4])
        self.assertEqual(numbers(row_of(4), 1, 1), [1, 2, 3, 4])
        self.assertEqual(numbers(row_of(4), 1, 2), [2, 3, 4])
        self.assertEqual(numbers(row_of(4), 1, 4), [4])

    def test_step_2(self):
        self.assertEqual(numbers(row_of(9), 2, 0), [2, 4, 6, 8])
        self.assertEqual(numbers(row_of(9), 2, 1), [1, 3, 5, 7, 9])
        self.assertEqual(numbers(row_of(9), 2, 2), [2, 4, 6, 8])
        self.assertEqual(numbers(row_of(9), 2, 5), [5, 7, 9])

    def test_step_3(self):
        self.assertEqual(numbers(row_of(10), 3, 0), [3, 6, 9])
        self.assertEqual(numbers(row_of(10), 3, 1), [1, 4, 7, 10])
        self.assertEqual(numbers(row_of(10), 3, 2), [2, 5, 8])
        self.assertEqual(numbers(row_of(10), 3, 3), [3, 6, 9])
        self.assertEqual(numbers(row_of(10), 3, 4), [4, 7, 10])

    def test_every_pair(self):
        for step in range(7):
            for first in range(7):
                met = [m for m in range(1, 20) if m in [step * n + first for n in range(20)]]
                self.assertEqual(numbers(row_of(19), step, first), met)

    def test_the_root_has_the_number_1(self):
        pairs = [(step, first) for step in range(4) for first in range(4)]
        met = [pair for pair in pairs if matches(row_of(2), (), alone(step=pair[0], first=pair[1]))]
        self.assertEqual(met, [(0, 1), (1, 0), (1, 1), (2, 1), (3, 1)])

    def test_all_siblings_are_numbered_and_no_others(self):
        document = ("a", (), (("b", (), (("c", (), ()), ("b", (), ()))), ("c", (), ()), ("b", (), ())))
        self.assertEqual(matching(document, (alone("b", step=0, first=2),)), [(0, 1)])
        self.assertEqual(matching(document, (alone("b", step=0, first=3),)), [(2,)])
        self.assertEqual(matching(document, (alone(step=0, first=1),)), [(), (0,), (0, 0)])

    def test_a_pair_in_front_of_a_link(self):
        second = (part(step=0, first=2), part())
        document = ("a", (), tuple(("b", (), (("c", (), ()),)) for _ in range(3)))
        self.assertEqual(matching(document, ((second, ("child",)),)), [(1, 0)])
        self.assertEqual(matching(document, ((second, ("next",)),)), [(2,)])

    def test_with_other_conditions(self):
        document = ("a", (), (("b", ("x",), ()), ("b", (), ()), ("b", ("x",), ()), ("c", ("x",), ())))
        self.assertEqual(matching(document, (alone("b", ("x",), (), 2, 1),)), [(0,), (2,)])
        self.assertEqual(matching(document, (alone(None, ("x",), (), 2, 0),)), [(3,)])


class TwoParts(unittest.TestCase):
    # The root, its children a and b, and theirs: a is first, then two of b.
    document = (
        "r",
        (),
        (
            ("a", (), (("c", (), (("b", (), ()),)), ("b", (), ()))),
            ("b", (), (("a", (), ()), ("b", (), ()), ("b", (), ()))),
            ("b", (), ()),
        ),
    )

    def test_child(self):
        self.assertEqual(matching(self.document, (linked("a", "child", "b"),)), [(0, 1)])
        self.assertEqual(matching(self.document, (linked("r", "child", "b"),)), [(1,), (2,)])
        self.assertEqual(matching(self.document, (linked("b", "child", "r"),)), [])

    def test_inside(self):
        self.assertEqual(matching(self.document, (linked("a", "inside", "b"),)), [(0, 0, 0), (0, 1)])
        self.assertEqual(
            matching(self.document, (linked("r", "inside", "b"),)),
            [(0, 0, 0), (0, 1), (1,), (1, 1), (1, 2), (2,)],
        )

    def test_next(self):
        self.assertEqual(matching(self.document, (linked("a", "next", "b"),)), [(1,), (1, 1)])
        self.assertEqual(matching(self.document, (linked("b", "next", "b"),)), [(1, 2), (2,)])
        self.assertEqual(matching(self.document, (linked("b", "next", "a"),)), [])

    def test_after(self):
        self.assertEqual(matching(self.document, (linked("a", "after", "b"),)), [(1,), (1, 1), (1, 2), (2,)])
        self.assertEqual(matching(self.document, (linked("c", "after", "b"),)), [(0, 1)])
        self.assertEqual(matching(self.document, (linked("b", "after", "a"),)), [])

    def test_an_element_is_not_its_own_relative(self):
        for link in ("child", "inside", "next", "after"):
            with self.subTest(link=link):
                self.assertFalse(matches(("a", (), ()), (), linked("a", link, "a")))
                self.assertFalse(matches(("r", (), (("a", (), ()),)), (0,), linked("a", link, "a")))

    def test_the_root_has_no_relatives(self):
        for link in ("child", "inside", "next", "after"):
            with self.subTest(link=link):
                self.assertIs(matches(self.document, (), linked(None, link, None)), False)

    def test_the_last_part_must_match_too(self):
        for link, place in (("child", (0, 0)), ("inside", (0, 0, 0)), ("next", (1,)), ("after", (2,))):
            with self.subTest(link=link):
                self.assertIs(matches(self.document, place, linked("a", link, None)), True)
                self.assertIs(matches(self.document, place, linked("a", link, "d")), False)

    def test_later_siblings_and_children_do_not_count(self):
        document = ("r", (), (("b", (), (("a", (), ()),)), ("a", (), ())))
        for link in ("child", "inside", "next", "after"):
            with self.subTest(link=link):
                self.assertIs(matches(document, (0,), linked("a", link, "b")), False)


class ManyParts(unittest.TestCase):
    def check(self, document, text, expected):
        selectors = parse_selectors(text)
        self.assertEqual(matching(document, selectors), expected)
        self.assertEqual(
            [place for place in plain.places(document) if matches(document, place, selectors[0])], expected
        )

    def test_only_one_of_several_ancestors_fits(self):
        chain = ("b", (), ())
        for kind in ("a", "a", "c", "a", "a", "r"):
            chain = (kind, (), (chain,))
        # Only the lower a of the upper pair has an a as its parent and is above c.
        self.check(chain, "a > a c b", [(0, 0, 0, 0, 0, 0)])
        self.check(chain, "a > a > c > a b", [(0, 0, 0, 0, 0, 0)])
        self.check(chain, "c > a b", [(0, 0, 0, 0, 0, 0)])
        self.check(chain, "c > a > b", [])
        self.check(chain, "r > a b", [(0, 0, 0, 0, 0, 0)])
        self.check(chain, "r > a > b", [])

    def test_only_one_of_several_earlier_siblings_fits(self):
        row = ("r", (), tuple((kind, (), ()) for kind in "acaabab"))
        self.check(row, "c + a ~ b", [(4,), (6,)])
        self.check(row, "a + a ~ b", [(4,), (6,)])
        self.check(row, "b + a ~ b", [(6,)])
        self.check(row, "c + a + b", [])
        self.check(row, "c ~ a + b", [(4,), (6,)])
        self.check(row, "r > a:0+1 ~ a:0+3 ~ b", [(4,), (6,)])

    def test_different_links(self):
        document = (
            "r",
            (),
            (
                ("a", ("x",), (("b", (), ()), ("c", (), (("d", (), ()), ("d", (), ()))))),
                ("a", (), (("b", (), ()), ("e", (), ()), ("c", (), (("d", (), ()),)))),
            ),
        )
        self.check(document, "a.x > b + c > d", [(0, 1, 0), (0, 1, 1)])
        self.check(document, "a > b ~ c d", [(0, 1, 0), (0, 1, 1), (1, 2, 0)])
        self.check(document, "a + a b ~ c > d", [(1, 2, 0)])
        self.check(document, "a + a > b + c > d", [])
        self.check(document, "r > a ~ a c > d:0+1", [(1, 2, 0)])
        self.check(document, "a > b ~ c > d + d", [(0, 1, 1)])

    def test_a_sibling_is_found_by_way_of_the_parent(self):
        document = ("r", (), (("a", (), (("b", (), ()),)), ("c", (), (("b", (), ()),))))
        self.check(document, "a + c > b", [(1, 0)])
        self.check(document, "a c", [])
        self.check(document, "a ~ b", [])

    def test_against_the_definition(self):
        for seed in range(300):
            draw = random.Random(seed)
            document = drawn.document(draw)
            selectors = drawn.selectors(draw, most=3, longest=5)
            self.assertEqual(matching(document, selectors), plain.matching(document, selectors))
            for selector in selectors:
                for place in plain.places(document):
                    self.assertIs(matches(document, place, selector), plain.matches(document, place, selector))


class Matches(unittest.TestCase):
    def test_no_element_at_the_place(self):
        for place in ((2,), (0, 0), (1, 1), (1, 0, 0), (5, 5), (0, 0, 0, 0)):
            with self.subTest(place=place):
                with self.assertRaises(BadPlace):
                    matches(EXAMPLE, place, alone())

    def test_a_negative_index(self):
        for place in ((-1,), (-2,), (1, -1), (-1, 0), (0, -1)):
            with self.subTest(place=place):
                with self.assertRaises(BadPlace):
                    matches(EXAMPLE, place, alone())

    def test_a_bad_place_is_an_error_for_every_selector(self):
        for selector in (alone("nowhere"), alone(step=0), linked("a", "inside", "b")):
            with self.assertRaises(BadPlace):
                matches(EXAMPLE, (7,), selector)

    def test_bools(self):
        self.assertIs(matches(EXAMPLE, (0,), alone("b")), True)
        self.assertIs(matches(EXAMPLE, (1,), alone("b")), False)
        self.assertIs(matches(EXAMPLE, (1, 0), linked("a", "inside", "b")), True)
        self.assertIs(matches(EXAMPLE, (1, 0), linked("a", "child", "b")), False)

    def test_documents_beyond_the_bounds(self):
        deep = ("b", (), ())
        for _ in range(400):
            deep = ("a", (), (deep,))
        self.assertIs(matches(deep, (0,) * 400, linked("a", "child", "b")), True)
        self.assertIs(matches(deep, (0,) * 399, linked("a", "child", "b")), False)
        self.assertEqual(matching(deep, (alone("b"),)), [(0,) * 400])
        self.assertIs(matches(row_of(400), (399,), alone(step=0, first=400)), True)
        self.assertEqual(matching(row_of(400), (alone(step=100),)), [(99,), (199,), (299,), (399,)])

    def test_selectors_beyond_the_bounds(self):
        chain = linked(*["a", "child"] * 7, "b")
        deep = ("b", (), ())
        for _ in range(7):
            deep = ("a", (), (deep,))
        self.assertIs(matches(deep, (0,) * 7, chain), True)
        self.assertIs(matches(deep[2][0], (0,) * 6, chain), False)


class Matching(unittest.TestCase):
    def test_the_example_of_the_interface(self):
        # The interface leaves out the star of `*.x`, which point 204 writes.
        self.assertEqual(matching(EXAMPLE, parse_selectors("a b, *.x ~ *")), [(0,), (1,), (1, 0)])

    def test_the_order_of_places(self):
        document = ("a", (), (("a", (), (("a", (), ()), ("a", (), ()))), ("a", (), (("a", (), ()),))))
        self.assertEqual(matching(document, (alone("a"),)), [(), (0,), (0, 0), (0, 1), (1,), (1, 0)])
        by_number = (alone(step=0, first=2), alone(step=0, first=1))
        self.assertEqual(matching(document, by_number), [(), (0,), (0, 0), (0, 1), (1,), (1, 0)])

    def test_the_empty_list(self):
        self.assertEqual(matching(EXAMPLE, ()), [])

    def test_an_element_that_several_selectors_match(self):
        several = (alone("b"), alone(marks=("x",)), alone(), linked("a", "child", "b"))
        self.assertEqual(matching(EXAMPLE, several), [(), (0,), (1,), (1, 0)])
        self.assertEqual(matching(EXAMPLE, (alone("b"), alone("b"))), [(0,), (1, 0)])

    def test_it_returns_a_list_of_tuples(self):
        found = matching(EXAMPLE, (alone(),))
        self.assertIsInstance(found, list)
        self.assertTrue(all(isinstance(place, tuple) for place in found))

    def test_a_match_of_another_selector_does_not_help(self):
        # The first part of one selector and the last part of another are no selector.
        self.assertEqual(matching(EXAMPLE, (linked("c", "next", "b"), linked("b", "child", "c"))), [])

    def test_the_arguments_stay_as_they_were(self):
        selectors = parse_selectors("a b, *.x ~ *, *:2+1")
        before = copy.deepcopy((EXAMPLE, selectors))
        matching(EXAMPLE, selectors)
        matches(EXAMPLE, (1, 0), selectors[0])
        self.assertEqual((EXAMPLE, selectors), before)


if __name__ == "__main__":
    unittest.main()
