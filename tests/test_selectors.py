"""Points 200 to 203: the form of selectors and of their lists, and the weight."""

import copy
import unittest

from treegarb.errors import BadSelector
from treegarb.selectors import check_list, check_selector, weight

ANY = (None, (), (), 1, 0)
LINKS = ("child", "inside", "next", "after")
SIMPLE = ((ANY,), ())
THREE_TESTS = (("kind", "b"), ("mark", "a"), ("mark", "x"))

# Values that are of none of the kinds that a selector or its parts may have.
OTHER_VALUES = (True, False, 0, 1, "", "ABCDE", b"a", [], {}, set(), object(), 1.5)


def alone(part):
    """A selector of one part."""
    return ((part,), ())


def last_of_five(part):
    """A selector of five parts that ends with this one."""
    return ((ANY,) * 4 + (part,), LINKS)


def in_the_middle(part):
    """A selector of three parts with this one between good ones."""
    return ((ANY, part, ANY), ("child", "after"))


def part_with(**changed):
    """A good part with some of its fields replaced."""
    fields = {"kind": "a", "marks": ("x",), "nots": (("mark", "y"),), "step": 2, "first": 1}
    fields.update(changed)
    return tuple(fields.values())


def wrong_names():
    return ["", "abcdefghijklm", "A", "a1", "a\n", "\u00e9", "*", None, ("a",), ["a"], *OTHER_VALUES]


def wrong_rows():
    """Values that are neither marks nor tests."""
    return [None, "x", ["x"], [], {"x": True}, *[value for value in OTHER_VALUES if value != ()]]


def wrong_marks():
    wrong = [
        ("a", "b", "c", "d"),
        ("x", "x"),
        ("x", "y", "y"),
        ("x", "y", "x"),
        ("y", "x"),
        ("x", "z", "y"),
        ["x", "y"],
        (("x",),),
        (("mark", "x"),),
    ]
    wrong.extend(wrong_rows())
    for name in wrong_names():
        wrong.append((name,))
        wrong.append(("x", name))
        wrong.append((name, "x"))
    return wrong


def wrong_tests():
    wrong = [
        (("kind", "a"), ("kind", "b"), ("kind", "c"), ("kind", "d")),
        (("kind", "a"), ("kind", "b"), ("mark", "a"), ("mark", "b")),
        (("kind", "a"), ("kind", "a")),
        (("mark", "a"), ("mark", "a")),
        (("kind", "a"), ("mark", "a"), ("kind", "a")),
        (("kind", "b"), ("kind", "a")),
        (("mark", "a"), ("kind", "b")),
        (("kind", "a"), ("mark", "b"), ("mark", "a")),
        [("kind", "a")],
        (["kind", "a"],),
        (("kind", "a"), ["mark", "a"]),
        ("kind", "a"),
        ((),),
        (("kind",),),
        (("kind", "a", "b"),),
        (("a", "kind"),),
        (("name", "a"),),
        (("Kind", "a"),),
        (("marks", "a"),),
        (("", "a"),),
        ((None, "a"),),
        ((["kind"], "a"),),
        ((1, "a"), ("kind", "a")),
        (("kind", "a"), ("kind", 1)),
        (("kind", "a"), None),
        (None, ("kind", "a")),
        ("kinda",),
        ("ka",),
    ]
    wrong.extend(wrong_rows())
    for name in wrong_names():
        wrong.append((("kind", name),))
        wrong.append((("mark", name),))
        wrong.append((("kind", "a"), ("mark", name)))
    for value in OTHER_VALUES:
        wrong.append((value,))
        wrong.append(((value, "a"),))
    return wrong


def wrong_counts():
    return [-1, 7, -6, 100, True, False, None, "1", "", 1.0, 0.0, (1,), (), [1], [], {}, b"1"]


def wrong_parts():
    good = part_with()
    wrong = [list(good), (), good[:1], good[:4], (*good, 0), None, "abcde", "a"]
    wrong.extend(OTHER_VALUES)
    # None is any kind, and no wrong one.
    wrong.extend([part_with(kind=name) for name in wrong_names() if name is not None])
    wrong.extend([part_with(marks=marks) for marks in wrong_marks()])
    wrong.extend([part_with(nots=nots) for nots in wrong_tests()])
    wrong.extend([part_with(step=count) for count in wrong_counts()])
    wrong.extend([part_with(first=count) for count in wrong_counts()])
    return wrong


def wrong_selectors():
    """Values whose parts are good, but that are no selectors."""
    wrong = [
        ((), ()),
        ((), ("child",)),
        ((ANY,) * 6, ("child",) * 5),
        ((ANY,) * 7, ("child",) * 6),
        ((ANY,) * 6, ("child",) * 4),
        ((ANY,), ("child",)),
        ((ANY, ANY), ()),
        ((ANY, ANY), ("child", "child")),
        ((ANY,) * 5, ("child",) * 3),
        ((ANY,) * 5, ("child",) * 5),
        [(ANY,), ()],
        ([ANY], ()),
        ((ANY,), []),
        ((ANY, ANY), ["child"]),
        ([ANY, ANY], ("child",)),
        ((), []),
        (),
        ((ANY,),),
        ((ANY,), (), ()),
        ANY,
        (ANY, ()),
        ((ANY,), None),
        (None, ()),
        ((ANY,), ""),
        ("a", ()),
        ((ANY, ANY), "c"),
        ((ANY, ANY), "child"),
        ((ANY, ANY), {"child": True}),
        {},
        None,
        "ab",
        SIMPLE + ((),),
        (SIMPLE,),
    ]
    for link in ("", "Child", "children", "parent", "before", " ", ">", None, ["child"], ("child",), 0, True):
        wrong.append(((ANY, ANY), (link,)))
        wrong.append(((ANY,) * 5, ("child", "next", "after", link)))
        wrong.append(((ANY,) * 3, (link, "next")))
    wrong.extend(OTHER_VALUES)
    return wrong


class CheckSelector(unittest.TestCase):
    def assert_selector(self, value):
        self.assertIs(check_selector(value), value)

    def assert_part(self, part):
        for selector in (alone(part), last_of_five(part), in_the_middle(part)):
            self.assert_selector(selector)

    def assert_bad(self, value):
        with self.assertRaises(BadSelector):
            check_selector(value)

    def test_one_part(self):
        self.assert_selector(SIMPLE)
        self.assert_selector(alone(part_with()))

    def test_each_number_of_parts_with_each_link(self):
        for count in range(1, 6):
            for link in LINKS:
                with self.subTest(count=count, link=link):
                    self.assert_selector(((ANY,) * count, (link,) * (count - 1)))
        self.assert_selector(((ANY,) * 5, LINKS))
        self.assert_selector(((ANY,) * 5, LINKS[::-1]))

    def test_kinds(self):
        for kind in (None, "a", "z", "abcdefghijkl", "child"):
            with self.subTest(kind=kind):
                self.assert_part(part_with(kind=kind))

    def test_marks(self):
        for marks in ((), ("x",), ("x", "y"), ("a", "b", "c"), ("a", "aa", "abcdefghijkl")):
            with self.subTest(marks=marks):
                self.assert_part(part_with(marks=marks))

    def test_tests(self):
        rows = (
            (),
            (("kind", "a"),),
            (("mark", "a"),),
            (("kind", "z"), ("mark", "a")),
            (("kind", "a"), ("mark", "a")),
            (("kind", "a"), ("kind", "b"), ("kind", "c")),
            (("mark", "a"), ("mark", "b"), ("mark", "c")),
            (("kind", "a"), ("kind", "b"), ("mark", "a")),
            THREE_TESTS,
        )
        for nots in rows:
            with self.subTest(nots=nots):
                self.assert_part(part_with(nots=nots))

    def test_a_part_may_contradict_itself(self):
        self.assert_part(("a", ("x",), (("kind", "a"), ("mark", "x")), 0, 0))

    def test_steps_and_firsts(self):
        for step in range(7):
            for first in range(7):
                with self.subTest(step=step, first=first):
                    self.assert_part(part_with(step=step, first=first))

    def test_everything_at_its_limit(self):
        part = ("abcdefghijkl", ("a", "b", "c"), THREE_TESTS, 6, 6)
        self.assert_selector(((part,) * 5, LINKS))

    def test_wrong_numbers_of_parts_and_links_and_other_values(self):
        for value in wrong_selectors():
            with self.subTest(value=value):
                self.assert_bad(value)

    def test_wrong_parts(self):
        for part in wrong_parts():
            with self.subTest(part=part):
                self.assert_bad(alone(part))
                self.assert_bad(last_of_five(part))
                self.assert_bad(in_the_middle(part))

    def test_arguments_are_not_modified(self):
        values = (
            [[ANY], []],
            ([ANY, ["a", ["y", "x"], [["mark", "a"]], 1, 0]], ["child"]),
            alone(part_with(marks=["y", "x"])),
            alone(part_with(nots=[("mark", "b"), ("kind", "a")])),
            ((ANY, ANY), ["child"]),
        )
        for value in values:
            before = copy.deepcopy(value)
            self.assert_bad(value)
            self.assertEqual(value, before)


class CheckList(unittest.TestCase):
    def assert_list(self, value):
        self.assertIs(check_list(value), value)

    def assert_bad(self, value):
        with self.assertRaises(BadSelector):
            check_list(value)

    def test_the_empty_list(self):
        self.assert_list(())

    def test_one_to_six_selectors(self):
        other = last_of_five(part_with())
        for count in range(1, 7):
            with self.subTest(count=count):
                self.assert_list((SIMPLE,) * count)
                self.assert_list((other,) * count)

    def test_seven_selectors(self):
        self.assert_bad((SIMPLE,) * 7)
        self.assert_bad((SIMPLE,) * 100)

    def test_a_list_in_the_place_of_the_tuple(self):
        self.assert_bad([])
        self.assert_bad([SIMPLE])

    def test_a_selector_is_no_list(self):
        self.assert_bad(SIMPLE)
        self.assert_bad(last_of_five(ANY))

    def test_one_wrong_selector_among_good_ones(self):
        wrong = wrong_selectors() + [alone(part) for part in wrong_parts()]
        for value in wrong:
            with self.subTest(value=value):
                self.assert_bad((value,))
                self.assert_bad((SIMPLE, value))
                self.assert_bad((SIMPLE, SIMPLE, value, SIMPLE))
                self.assert_bad((value, SIMPLE, SIMPLE, SIMPLE, SIMPLE, SIMPLE))

    def test_other_values(self):
        for value in (None, *OTHER_VALUES):
            with self.subTest(value=value):
                self.assert_bad(value)

    def test_arguments_are_not_modified(self):
        for value in ([SIMPLE, ANY], (SIMPLE, [[ANY], []])):
            before = copy.deepcopy(value)
            self.assert_bad(value)
            self.assertEqual(value, before)


class Weight(unittest.TestCase):
    def assert_weight(self, selector, expected):
        found = weight(check_selector(selector))
        self.assertEqual(found, expected)
        self.assertIsInstance(found, tuple)

    def test_any_element(self):
        self.assert_weight(SIMPLE, (0, 0))
        self.assert_weight(((ANY,) * 5, LINKS), (0, 0))

    def test_kinds(self):
        self.assert_weight(alone(("a", (), (), 1, 0)), (0, 1))
        with_kind = ("a", (), (), 1, 0)
        self.assert_weight(((with_kind, ANY, with_kind), ("child", "next")), (0, 2))
        self.assert_weight(((with_kind,) * 5, LINKS), (0, 5))

    def test_marks_in_several_parts(self):
        self.assert_weight(alone((None, ("x",), (), 1, 0)), (1, 0))
        self.assert_weight(alone((None, ("x", "y", "z"), (), 1, 0)), (3, 0))
        parts = ((None, ("x", "y"), (), 1, 0), ANY, (None, ("x",), (), 1, 0))
        self.assert_weight((parts, ("child", "after")), (3, 0))

    def test_tests_for_kinds(self):
        self.assert_weight(alone((None, (), (("kind", "a"),), 1, 0)), (0, 1))
        self.assert_weight(alone((None, (), (("kind", "a"), ("kind", "b")), 1, 0)), (0, 2))
        self.assert_weight(alone(("c", (), (("kind", "a"), ("kind", "b")), 1, 0)), (0, 3))

    def test_tests_for_marks(self):
        self.assert_weight(alone((None, (), (("mark", "a"),), 1, 0)), (1, 0))
        self.assert_weight(alone((None, ("x",), (("mark", "a"), ("mark", "b")), 1, 0)), (3, 0))

    def test_both_kinds_of_tests(self):
        self.assert_weight(alone((None, (), THREE_TESTS, 1, 0)), (2, 1))
        self.assert_weight(last_of_five((None, (), THREE_TESTS, 1, 0)), (2, 1))
        self.assert_weight((((None, (), THREE_TESTS, 1, 0),) * 2, ("inside",)), (4, 2))

    def test_every_pair_of_step_and_first(self):
        for step in range(7):
            for first in range(7):
                with self.subTest(step=step, first=first):
                    expected = (0, 0) if (step, first) == (1, 0) else (1, 0)
                    self.assert_weight(alone((None, (), (), step, first)), expected)
        for pair in ((0, 1), (1, 1), (0, 0), (2, 0), (6, 6)):
            self.assert_weight((((None, (), (), *pair), ANY, (None, (), (), *pair)), LINKS[:2]), (2, 0))

    def test_links_weigh_nothing(self):
        for link in LINKS:
            with self.subTest(link=link):
                self.assert_weight(((("a", ("x",), (), 1, 0), ANY), (link,)), (1, 1))

    def test_all_together(self):
        parts = (
            ("a", ("x", "y"), (("kind", "b"), ("mark", "z")), 0, 1),
            (None, ("x",), (("mark", "y"),), 1, 0),
            ("c", (), (("kind", "a"), ("kind", "b")), 1, 1),
        )
        self.assert_weight((parts, ("child", "inside")), (7, 5))

    def test_selectors_beyond_the_limits(self):
        part = ("a", ("a", "b", "c", "d"), (), 7, 9)
        self.assertEqual(weight(((part,) * 8, ("child",) * 7)), (40, 8))


if __name__ == "__main__":
    unittest.main()
