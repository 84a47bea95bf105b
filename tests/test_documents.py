"""Points 3 and 100 to 102: names, documents and places."""

import copy
import unittest

from treegarb.documents import check_document, element_at, is_name, places
from treegarb.errors import BadDocument, BadPlace

LEAF = ("a", (), ())
SMALL = ("a", (), (("b", ("x",), ()), ("c", (), (("b", (), ()),))))
SIX_MARKS = ("a", "b", "c", "d", "e", "f")

# Values that are of none of the kinds that a part of a document may have.
OTHER_VALUES = (None, True, False, 0, 1, "", b"a", [], {}, set(), object(), 1.5)


def chain(levels):
    """A document in which each element but the last has one child."""
    element = LEAF
    for _ in range(levels - 1):
        element = ("a", (), (element,))
    return element


def flat(size):
    """A document of a root and its children."""
    return ("a", (), (LEAF,) * (size - 1))


def within(element):
    """A document with the element three levels below the root, among siblings."""
    inner = ("c", (), (LEAF, element, LEAF))
    return ("a", ("x",), (LEAF, ("b", (), (inner, LEAF))))


def wrong_elements():
    """Values of which none is an element."""
    wrong = [
        ["a", (), ()],
        ("a", [], ()),
        ("a", (), []),
        ("a", (), [LEAF]),
        ("a", ["x"], ()),
        (),
        ("a",),
        ("a", ()),
        ("a", (), (), ()),
        ("a", (*SIX_MARKS, "g"), ()),
        ("a", ("x", "x"), ()),
        ("a", ("x", "y", "x"), ()),
        ("a", ("x", "y", "y"), ()),
        ("a", ("y", "x"), ()),
        ("a", ("x", "z", "y"), ()),
        ("a", "x", ()),
        ("a", {"x": True}, ()),
        ("a", (("x",),), ()),
        ("a", (), "a"),
        ("a", (), (LEAF, "a")),
        ("a", (), (LEAF, ())),
        ("a", (), LEAF),
        ("a", (), {LEAF: True}),
        "abc",
    ]
    for name in ("", "abcdefghijklm", "A", "aB", "a1", "a b", "a\n", "\u00e9", "_"):
        wrong.append((name, (), ()))
        wrong.append(("a", (name,), ()))
        wrong.append(("a", ("a", "b", name), ()))
        wrong.append(("a", (name, "x", "y"), ()))
    for value in OTHER_VALUES:
        wrong.append(value)
        wrong.append((value, (), ()))
        wrong.append(("a", value, ()))
        wrong.append(("a", (), value))
        wrong.append(("a", (value,), ()))
        wrong.append(("a", ("x", value), ()))
        wrong.append(("a", (value, "x"), ()))
        wrong.append(("a", (), (value,)))
    return wrong


class Names(unittest.TestCase):
    def test_names(self):
        for name in ("a", "z", "m", "ab", "none", "zzz", "abcdefghijkl", "mnopqrstuvwx", "yz"):
            with self.subTest(name=name):
                self.assertIs(is_name(name), True)

    def test_strings_that_are_no_names(self):
        wrong = ["", "abcdefghijklm", "A", "Z", "aB", "Ab", "a1", "1", "0a", "a b", " a", "a ",
                 "a\n", "\n", "a_b", "a-b", "`", "{", "a.b", "\u00e9", "\u00df", "a\u00e9b", "\u0430",
                 "\uff41", "\U0001d41a", "e\u0301", "\u00aa", "\x00"]
        for text in wrong:
            with self.subTest(text=text):
                self.assertIs(is_name(text), False)

    def test_values_that_are_not_strings(self):
        for value in (*OTHER_VALUES, ("a",), ["a"], {"a": 1}, ("a", "b"), b"abc"):
            with self.subTest(value=value):
                self.assertIs(is_name(value), False)


class CheckDocument(unittest.TestCase):
    def assert_document(self, value):
        self.assertIs(check_document(value), value)

    def test_one_element(self):
        self.assert_document(LEAF)
        self.assert_document(("abcdefghijkl", ("abcdefghijkl",), ()))

    def test_several_levels(self):
        self.assert_document(SMALL)
        self.assert_document(within(("d", ("x", "y"), (LEAF,))))

    def test_marks(self):
        for count in range(7):
            with self.subTest(count=count):
                element = ("a", SIX_MARKS[:count], ())
                self.assert_document(element)
                self.assert_document(within(element))
        self.assert_document(("a", ("a", "aa", "ab", "b"), ()))

    def test_exactly_200_elements(self):
        self.assert_document(flat(200))
        self.assert_document(("a", (), (flat(99), flat(100))))
        self.assert_document(("a", (), (chain(19),) * 10 + (LEAF,) * 9))

    def test_201_elements(self):
        shapes = (
            flat(201),
            ("a", (), (flat(100), flat(100))),
            ("a", (), (chain(19),) * 10 + (LEAF,) * 10),
            within(flat(194)),
            ("a", (), (LEAF,) * 100000),
        )
        self.assertEqual(len(places(shapes[3])), 201)
        self.assert_document(within(flat(193)))
        for value in shapes:
            with self.assertRaises(BadDocument):
                check_document(value)

    def test_exactly_20_levels(self):
        self.assert_document(chain(20))
        self.assert_document(("a", (), (LEAF, chain(19), LEAF)))
        self.assert_document(within(chain(17)))

    def test_21_levels(self):
        for value in (chain(21), ("a", (), (LEAF, chain(20), LEAF)), within(chain(18)), chain(100)):
            with self.assertRaises(BadDocument):
                check_document(value)

    def test_far_too_many_levels_are_a_bad_document_and_no_other_error(self):
        with self.assertRaises(BadDocument):
            check_document(chain(50000))

    def test_each_fault_at_the_root(self):
        for value in wrong_elements():
            with self.subTest(value=value):
                with self.assertRaises(BadDocument):
                    check_document(value)

    def test_each_fault_deep_within_a_document(self):
        for value in wrong_elements():
            with self.subTest(value=value):
                with self.assertRaises(BadDocument):
                    check_document(within(value))

    def test_each_fault_at_the_deepest_level(self):
        for value in wrong_elements():
            document = value
            for _ in range(19):
                document = ("a", (), (document,))
            with self.subTest(value=value):
                with self.assertRaises(BadDocument):
                    check_document(document)

    def test_arguments_are_not_modified(self):
        for value in (["a", ["x"], [LEAF]], ("a", ["y", "x"], [["b", [], []]]), {"a": [1]}):
            before = copy.deepcopy(value)
            with self.assertRaises(BadDocument):
                check_document(value)
            self.assertEqual(value, before)


class Places(unittest.TestCase):
    def test_the_example(self):
        self.assertEqual(places(SMALL), [(), (0,), (1,), (1, 0)])

    def test_the_place_of_the_root(self):
        self.assertEqual(places(LEAF), [()])
        self.assertIs(element_at(SMALL, ()), SMALL)

    def test_each_child_is_followed_by_its_descendants(self):
        document = ("a", (), (
            ("b", (), (LEAF, ("c", (), (LEAF,)), LEAF)),
            LEAF,
            ("d", (), (("e", (), (LEAF, LEAF)),)),
        ))
        self.assertEqual(places(document), [
            (), (0,), (0, 0), (0, 1), (0, 1, 0), (0, 2), (1,), (2,), (2, 0), (2, 0, 0), (2, 0, 1),
        ])

    def test_more_than_ten_children(self):
        self.assertEqual(places(flat(13)), [()] + [(index,) for index in range(12)])

    def test_every_place_leads_to_its_element(self):
        kinds = "abcdefghijkl"
        document = ("a", (), (
            ("b", (), (("c", (), ()), ("d", (), (("e", (), ()),)))),
            ("f", (), ()),
            ("g", (), (("h", (), (("i", (), ()), ("j", (), ()))), ("k", (), ()))),
            ("l", (), ()),
        ))
        found = places(document)
        self.assertEqual("".join(element_at(document, place)[0] for place in found), kinds)
        for place in found:
            self.assertIsInstance(place, tuple)

    def test_parents_and_earlier_siblings(self):
        for document in (SMALL, within(SMALL), flat(20), within(within(SMALL))):
            found = places(document)
            self.assertEqual(len(set(found)), len(found))
            for place in found[1:]:
                parent = element_at(document, place[:-1])
                self.assertIs(parent[2][place[-1]], element_at(document, place))
                self.assertLess(found.index(place[:-1]), found.index(place))
                siblings = [other for other in found if other[:-1] == place[:-1] and other]
                earlier = siblings[:siblings.index(place)]
                # The number of the element is 1 more than this.
                self.assertEqual(len(earlier), place[-1])
                for index, other in enumerate(earlier):
                    self.assertEqual(other, (*place[:-1], index))

    def test_a_list_of_its_own_each_time(self):
        first = places(SMALL)
        first.append("more")
        self.assertEqual(places(SMALL), [(), (0,), (1,), (1, 0)])

    def test_documents_beyond_the_bounds(self):
        deep = chain(1500)
        self.assertEqual(places(deep), [(0,) * depth for depth in range(1500)])
        self.assertIs(element_at(deep, (0,) * 1499), LEAF)
        self.assertEqual(len(places(flat(1000))), 1000)
        self.assertIs(element_at(flat(1000), (998,)), LEAF)

    def test_an_index_that_is_too_great(self):
        for place in ((2,), (3,), (1000000,), (1, 1), (1, 2)):
            with self.subTest(place=place):
                with self.assertRaises(BadPlace):
                    element_at(SMALL, place)

    def test_a_path_below_an_element_without_children(self):
        for place in ((0, 0), (0, 1), (0, 0, 0), (1, 0, 0), (1, 0, 1)):
            with self.subTest(place=place):
                with self.assertRaises(BadPlace):
                    element_at(SMALL, place)
        with self.assertRaises(BadPlace):
            element_at(LEAF, (0,))

    def test_an_index_that_is_too_great_before_the_end_of_the_path(self):
        with self.assertRaises(BadPlace):
            element_at(SMALL, (2, 0))

    def test_a_negative_index_leads_nowhere(self):
        for place in ((-1,), (1, -1), (-2,)):
            with self.subTest(place=place):
                with self.assertRaises(BadPlace):
                    element_at(SMALL, place)


if __name__ == "__main__":
    unittest.main()
