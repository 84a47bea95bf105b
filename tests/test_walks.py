"""Points 300 to 304: letters, walks, and the states that walks lead to."""

import copy
import math
import random
import unittest

import drawn
import plain
from treegarb.errors import TooMany
from treegarb.documents import element_at
from treegarb.matching import matches
from treegarb.notation import parse_selectors
from treegarb.walks import is_bad, letters, next_state, start_state, walk_document

A, B, C, Z = ("a", ()), ("b", ()), ("c", ()), ("z", ())
FALSE = (False,)
TRUE = (True,)


def states(first, second, walk):
    """The states that a walk goes through."""
    found = [start_state(first, second, walk[0][1])]
    for move, letter in walk[1:]:
        found.append(next_state(first, second, found[-1], move, letter))
    return found


def walk_of(text):
    """A walk in words: the root's kind, then `d b` for down and `r b` for right; no marks."""
    words = text.split(" ")
    moves = {"d": "down", "r": "right"}
    steps = [(moves[move], (kind, ())) for move, kind in zip(words[1::2], words[2::2])]
    return (("root", (words[0], ())), *steps)


def counts(text, length):
    """The counts of the numbers 1, 2, 3 .. for a list of selectors."""
    first = parse_selectors(text)
    walk = (("root", A), ("down", A), *[("right", A)] * (length - 1))
    return [state[1] for state in states(first, (), walk)[1:]]


class Letters(unittest.TestCase):
    def check(self, first, second, expected):
        found = letters(parse_selectors(first), parse_selectors(second))
        self.assertEqual(found, expected)
        self.assertIsInstance(found, list)

    def test_two_empty_lists(self):
        self.check("", "", [("z", ())])

    def test_kinds_of_both_lists(self):
        self.check("a", "", [("a", ()), ("z", ())])
        self.check("", "a", [("a", ()), ("z", ())])
        self.check("b, c > a", "d ~ b", [("a", ()), ("b", ()), ("c", ()), ("d", ()), ("z", ())])

    def test_marks_of_both_lists(self):
        self.check("*.x", "", [("z", ()), ("z", ("x",))])
        self.check("*.x", "*.w", [("z", ()), ("z", ("w",)), ("z", ("x",)), ("z", ("w", "x"))])
        self.check("*.x.y", "*.x", [("z", ()), ("z", ("x",)), ("z", ("y",)), ("z", ("x", "y"))])

    def test_the_order(self):
        self.check(
            "b.x, a",
            "*.xx, *.w",
            [
                (kind, marks)
                for marks in (
                    (), ("w",), ("x",), ("xx",), ("w", "x"), ("w", "xx"), ("x", "xx"), ("w", "x", "xx"),
                )
                for kind in ("a", "b", "z")
            ],
        )

    def test_the_order_of_four_marks(self):
        found = letters(parse_selectors("*.a.b.c"), parse_selectors("*.d"))
        pairs = [("a", "b"), ("a", "c"), ("a", "d"), ("b", "c"), ("b", "d"), ("c", "d")]
        threes = [("a", "b", "c"), ("a", "b", "d"), ("a", "c", "d"), ("b", "c", "d")]
        ones = [("a",), ("b",), ("c",), ("d",)]
        self.assertEqual(found, [("z", marks) for marks in [(), *ones, *pairs, *threes, ("a", "b", "c", "d")]])

    def test_the_further_kind(self):
        self.check("z", "", [("z", ()), ("zz", ())])
        self.check("zz", "", [("z", ()), ("zz", ())])
        self.check("z", "zz", [("z", ()), ("zz", ()), ("zzz", ())])
        self.check("z, zzz", "", [("z", ()), ("zz", ()), ("zzz", ())])
        self.check("*!z", "", [("z", ()), ("zz", ())])
        self.check("*.z", "", [("z", ()), ("z", ("z",))])
        self.check("zebra", "", [("z", ()), ("zebra", ())])
        self.check("zy, a", "z", [("a", ()), ("z", ()), ("zy", ()), ("zz", ())])

    def test_names_in_tests_only(self):
        self.check("*!a", "", [("a", ()), ("z", ())])
        self.check("", "*!.x", [("z", ()), ("z", ("x",))])
        self.check("*!a!.x > *", "*!b", [(kind, marks) for marks in ((), ("x",)) for kind in ("a", "b", "z")])

    def test_a_name_that_is_a_kind_and_a_mark(self):
        self.check("a.a", "*!a!.a", [("a", ()), ("z", ()), ("a", ("a",)), ("z", ("a",))])

    def test_five_kinds_and_four_marks(self):
        found = letters(parse_selectors("a.w > b.x c, d.y"), parse_selectors("*!e!.z"))
        self.assertEqual(len(found), 6 * 16)
        self.assertEqual(found, plain.letters(parse_selectors("a.w > b.x c, d.y"), parse_selectors("*!e!.z")))

    def test_too_many_marks(self):
        for first, second in (
            ("*.a.b.c, *.d.e", ""),
            ("", "*.a.b.c, *.d.e"),
            ("*.a.b.c", "*.c.d.e"),
            ("*.a.b.c", "*!.d!.e"),
            ("*.a.b.c > *!.d", "*!.e"),
        ):
            with self.subTest(first=first, second=second):
                with self.assertRaises(TooMany):
                    letters(parse_selectors(first), parse_selectors(second))

    def test_too_many_kinds(self):
        for first, second in (
            ("a, b, c, d, e, f", ""),
            ("", "a, b, c > d + e f"),
            ("a, b, c", "d, e, f"),
            ("a, b, c", "*!d!e!f"),
            ("a, b, c, d, e", "z"),
        ):
            with self.subTest(first=first, second=second):
                with self.assertRaises(TooMany):
                    letters(parse_selectors(first), parse_selectors(second))

    def test_the_same_names_in_both_lists_count_once(self):
        self.assertEqual(len(letters(parse_selectors("a, b, c, d, e"), parse_selectors("a b c, d, *!e"))), 6)
        self.assertEqual(len(letters(parse_selectors("*.a.b.c, *.d"), parse_selectors("*.b.c.d, *!.a"))), 16)

    def test_against_the_definition(self):
        for seed in range(200):
            draw = random.Random(seed)
            first = drawn.selectors(draw, kinds=("a", "z", "zz"), marks="xyz")
            second = drawn.selectors(draw, kinds=("a", "zzz"), marks="xw")
            self.assertEqual(letters(first, second), plain.letters(first, second))


class WalkDocument(unittest.TestCase):
    def test_one_step(self):
        self.assertEqual(walk_document((("root", A),)), (("a", (), ()), ()))
        self.assertEqual(walk_document((("root", ("b", ("x", "y"))),)), (("b", ("x", "y"), ()), ()))

    def test_down(self):
        walk = (("root", A), ("down", ("b", ("x",))), ("down", C))
        self.assertEqual(walk_document(walk), (("a", (), (("b", ("x",), (("c", (), ()),)),)), (0, 0)))

    def test_right(self):
        document = ("a", (), (("b", (), ()), ("c", (), ()), ("b", (), ())))
        self.assertEqual(walk_document(walk_of("a d b r c r b")), (document, (2,)))

    def test_down_and_then_right(self):
        document = ("a", (), (("b", (), (("c", (), ()), ("d", (), ()))),))
        self.assertEqual(walk_document(walk_of("a d b d c r d")), (document, (0, 1)))

    def test_right_and_then_down(self):
        document = ("a", (), (("b", (), ()), ("c", (), (("d", (), ()),))))
        self.assertEqual(walk_document(walk_of("a d b r c d d")), (document, (1, 0)))

    def test_to_and_fro(self):
        last = ("d", (), (("a", (), ()), ("b", (), ()), ("c", (), (("d", (), ()),))))
        document = ("a", (), (("b", (), ()), ("c", (), ()), last))
        self.assertEqual(walk_document(walk_of("a d b r c r d d a r b r c d d")), (document, (2, 2, 0)))

    def test_many_levels(self):
        document, place = walk_document((("root", A), *[("down", A)] * 299, ("down", B)))
        self.assertEqual(place, (0,) * 300)
        self.assertEqual(element_at(document, place), ("b", (), ()))
        self.assertEqual(element_at(document, (0,) * 298)[0], "a")

    def test_many_elements(self):
        document, place = walk_document((("root", A), ("down", B), *[("right", A)] * 299, ("right", C)))
        self.assertEqual(place, (300,))
        self.assertEqual(len(document[2]), 301)
        self.assertEqual(document[2][300], ("c", (), ()))
        self.assertEqual(document[2][0], ("b", (), ()))

    def test_against_the_definition(self):
        for seed in range(200):
            draw = random.Random(seed)
            walk = drawn.walk(draw, [A, B, ("a", ("x",))], draw.randint(1, 12))
            self.assertEqual(walk_document(walk), plain.walk_document(walk))

    def test_matches_takes_such_a_document(self):
        document, place = walk_document((("root", B), *[("down", A)] * 30, *[("right", C)] * 300))
        self.assertIs(matches(document, place, parse_selectors("b a ~ c:3+1")[0]), True)
        self.assertIs(matches(document, place, parse_selectors("b a ~ c:3+0")[0]), False)


class DepthAndCount(unittest.TestCase):
    def test_the_depth(self):
        walk = walk_of("a d b d a r b r a d a")
        self.assertEqual([state[0] for state in states((), (), walk)], [0, 1, 1, 1, 1, 1])
        first = parse_selectors("a:2+1 > b")
        self.assertEqual([state[0] for state in states(first, (), walk)], [0, 1, 1, 1, 1, 1])

    def test_depth_and_count_are_integers(self):
        for text in ("a", "a:2+1", "*:0+0"):
            for state in states(parse_selectors(text), (), walk_of("a d b r a d b")):
                self.assertIs(type(state[0]), int)
                self.assertIs(type(state[1]), int)

    def test_two_empty_lists(self):
        self.assertEqual(start_state((), (), Z), (0, 0, ()))
        self.assertEqual(next_state((), (), (0, 0, ()), "down", Z), (1, 0, ()))
        self.assertEqual(next_state((), (), (1, 0, ()), "right", Z), (1, 0, ()))

    def test_no_pair(self):
        self.assertEqual(counts("", 4), [0, 0, 0, 0])
        self.assertEqual(counts("a > *.x, b!a", 4), [0, 0, 0, 0])

    def test_one_pair(self):
        self.assertEqual(counts("*:2+0", 6), [1, 2, 1, 2, 1, 2])
        self.assertEqual(counts("*:2+1", 6), [1, 2, 3, 2, 3, 2])
        self.assertEqual(counts("*:3+2", 9), [1, 2, 3, 4, 5, 3, 4, 5, 3])
        self.assertEqual(counts("*:1+1", 4), [1, 2, 2, 2])
        self.assertEqual(counts("*:1+3", 6), [1, 2, 3, 4, 4, 4])
        self.assertEqual(counts("*:6+0", 8), [1, 2, 3, 4, 5, 6, 1, 2])

    def test_step_0(self):
        self.assertEqual(counts("*:0+0", 4), [1, 1, 1, 1])
        self.assertEqual(counts("*:0+1", 4), [1, 2, 2, 2])
        self.assertEqual(counts("*:0+3", 6), [1, 2, 3, 4, 4, 4])

    def test_several_pairs(self):
        self.assertEqual(counts("*:2+1 > *:0+3", 8), [1, 2, 3, 4, 5, 4, 5, 4])
        self.assertEqual(counts("*:2+0, *:3+0", 8), [1, 2, 3, 4, 5, 6, 1, 2])
        self.assertEqual(counts("*:4+1, *:6+2", 16), [*range(1, 15), 3, 4])
        self.assertEqual(counts("*:0+5, *:0+2, *", 8), [1, 2, 3, 4, 5, 6, 6, 6])
        self.assertEqual(counts("*:3+0 *:4+0, *:5+6", 70), [*range(1, 67), 7, 8, 9, 10])

    def test_the_pair_of_every_number_does_not_count(self):
        self.assertEqual(counts("*, *:0+0, *", 4), [1, 1, 1, 1])
        self.assertEqual(counts("* > *:2+0 > *", 4), [1, 2, 1, 2])

    def test_pairs_of_the_second_list_count(self):
        first, second = parse_selectors("a:2+0"), parse_selectors("a:3+1")
        walk = (("root", A), ("down", A), *[("right", A)] * 9)
        for pair in ((first, second), (second, first)):
            found = [state[1] for state in states(*pair, walk)]
            self.assertEqual(found, [1, 1, 2, 3, 4, 5, 6, 7, 2, 3, 4])

    def test_a_child_begins_at_1_again(self):
        walk = walk_of("a d a r a r a d a r a")
        self.assertEqual([state[1] for state in states(parse_selectors("a:0+2"), (), walk)], [1, 1, 2, 3, 1, 2])

    def test_the_number_of_the_root_is_1(self):
        for text in ("*:0+0", "*:0+1", "*:2+0", "*:6+6"):
            self.assertEqual(start_state(parse_selectors(text), (), A)[1], 1)

    def test_the_count_tells_which_pairs_are_met(self):
        pairs = [(step, first) for step in (0, 1, 2, 3, 4) for first in range(4)]
        selectors = tuple((((None, (), (), step, first),), ()) for step, first in pairs)
        walk = (("root", A), ("down", A), *[("right", A)] * 40)
        for number, state in enumerate(states(selectors, (), walk)[1:], 1):
            met = [any(step * n + first == number for n in range(50)) for step, first in pairs]
            self.assertEqual([row[0] for row in state[2]], [(truth,) for truth in met])
            self.assertEqual(state[1], number if number <= 3 else 4 + (number - 4) % math.lcm(1, 2, 3, 4))


class Rows(unittest.TestCase):
    def check(self, text, walk, expected):
        """The rows of a list with one selector along a walk, on either side."""
        found = [state[2] for state in states(parse_selectors(text), (), walk_of(walk))]
        self.assertEqual(found, [(row,) for row in expected])
        self.assertEqual([state[2] for state in states((), parse_selectors(text), walk_of(walk))], found)

    def test_one_part(self):
        yes, no = TRUE, FALSE
        self.check(
            "a",
            "a d b r a r b d b d a",
            [
                (yes, no, no, no, no),
                (no, yes, yes, no, no),
                (yes, yes, yes, no, no),
                (no, yes, yes, yes, yes),
                (no, no, yes, no, no),
                (yes, no, yes, no, no),
            ],
        )

    def test_earlier_siblings_stay_true(self):
        yes, no = TRUE, FALSE
        self.check(
            "b",
            "a d b r c r c r b d c",
            [
                (no, no, no, no, no),
                (yes, no, no, no, no),
                (no, no, no, yes, yes),
                (no, no, no, no, yes),
                (yes, no, no, no, yes),
                (no, yes, yes, no, no),
            ],
        )

    def test_child(self):
        none, one, two = (False, False), (True, False), (False, True)
        self.check(
            "a > b",
            "a d b r c r b d b",
            [
                (one, none, none, none, none),
                (two, one, one, none, none),
                (none, one, one, two, two),
                (two, one, one, none, two),
                (none, two, (True, True), none, none),
            ],
        )

    def test_inside(self):
        none, one, two = (False, False), (True, False), (False, True)
        self.check(
            "a b",
            "a d c d c r b r a d c",
            [
                (one, none, none, none, none),
                (none, one, one, none, none),
                (none, none, one, none, none),
                (two, none, one, none, none),
                (one, none, one, two, two),
                (none, one, one, none, none),
            ],
        )

    def test_next(self):
        none, one, two = (False, False), (True, False), (False, True)
        self.check(
            "a + b",
            "b d a r b r b d b",
            [
                (none, none, none, none, none),
                (one, none, none, none, none),
                (two, none, none, one, one),
                (none, none, none, two, (True, True)),
                (none, none, none, none, none),
            ],
        )

    def test_after(self):
        none, one, two = (False, False), (True, False), (False, True)
        self.check(
            "a ~ b",
            "b d a r c r b d b",
            [
                (none, none, none, none, none),
                (one, none, none, none, none),
                (none, none, none, one, one),
                (two, none, none, none, one),
                (none, two, two, none, none),
            ],
        )

    def test_three_parts(self):
        first = parse_selectors("a > b + c")
        last = states(first, (), walk_of("a d b r c"))[-1]
        one, two, three = (True, False, False), (False, True, False), (False, False, True)
        self.assertEqual(last, (1, 0, ((three, one, one, two, two),)))

    def test_the_second_part_needs_the_first(self):
        first = parse_selectors("b > b")
        self.assertEqual(start_state(first, (), B)[2][0][0], (True, False))
        self.assertEqual(states(first, (), walk_of("a d b"))[-1][2][0][0], (True, False))
        self.assertEqual(states(first, (), walk_of("b d b"))[-1][2][0][0], (True, True))

    def test_a_row_for_each_selector_of_both_lists(self):
        first, second = parse_selectors("a, b > a"), parse_selectors("b")
        found = states(first, second, walk_of("b d a"))
        no, none = FALSE, (False, False)
        self.assertEqual(
            found[0],
            (0, 0, ((no, no, no, no, no), ((True, False), none, none, none, none), (TRUE, no, no, no, no))),
        )
        here = ((False, True), (True, False), (True, False), none, none)
        self.assertEqual(found[1], (1, 0, ((TRUE, no, no, no, no), here, (no, TRUE, TRUE, no, no))))

    def test_all_values_are_truth_values(self):
        first, second = parse_selectors("a > b.x:2+1, * ~ a"), parse_selectors("*!a + b")
        for state in states(first, second, walk_of("a d b r a r b d a r b")):
            self.assertIs(type(state), tuple)
            self.assertIs(type(state[2]), tuple)
            self.assertEqual(len(state[2]), 3)
            for row in state[2]:
                self.assertIs(type(row), tuple)
                self.assertEqual([len(truths) for truths in row], [2] * 5)
                self.assertTrue(all(type(truths) is tuple for truths in row))
                self.assertTrue(all(type(truth) is bool for truths in row for truth in truths))

    def test_marks_and_tests(self):
        first = parse_selectors("*.x.y!a")
        for letter, expected in ((("b", ("x", "y")), True), (("a", ("x", "y")), False), (("b", ("x",)), False)):
            self.assertEqual(start_state(first, (), letter)[2][0][0], (expected,))
        self.assertEqual(start_state(parse_selectors("*!.x"), (), ("a", ("x",)))[2][0][0], FALSE)

    def test_any_state_is_continued(self):
        # No walk leads to this state: all of the old values have a say in the new ones.
        first = parse_selectors("a > a, a a, a + a, a ~ a")
        row = ((False, True), (True, True), (False, False), (True, False), (False, True))
        down = next_state(first, (), (1, 0, (row,) * 4), "down", A)
        new = ((True, False), (False, True), (False, True), (False, False), (False, False))
        self.assertEqual(down, (1, 0, (new,) * 4))
        right = next_state(first, (), (1, 0, (row,) * 4), "right", A)
        others = ((True, True), (False, False), (False, True), (False, True))
        here = ((True, True), (True, False), (True, False), (True, False))
        self.assertEqual(right, (1, 0, tuple((truths, *others) for truths in here)))

    def test_against_matches(self):
        for seed in range(120):
            draw = random.Random(seed)
            first, second = drawn.selectors(draw, 2, 4), drawn.selectors(draw, 2, 4)
            walk = drawn.walk(draw, letters(first, second), 7)
            for length, state in enumerate(states(first, second, walk), 1):
                document, place = walk_document(walk[:length])
                self.assertEqual(state, plain.state(first, second, walk[:length]))
                for (parts, links), row in zip(first + second, state[2]):
                    cuts = [(parts[: at + 1], links[:at]) for at in range(len(parts))]
                    self.assertEqual(row[0], tuple(matches(document, place, cut) for cut in cuts))
                    for truths, link in zip(row[1:], plain.LINKS):
                        others = plain.related(place, link)
                        told = [any([matches(document, other, cut) for other in others]) for cut in cuts]
                        self.assertEqual(truths, tuple(told))

    def test_beyond_the_bound_of_the_letters(self):
        # Point 300 bounds the letters only; a state has no such bound.
        first = parse_selectors("a, b, c, d, e, f")
        self.assertEqual(start_state(first, (), A)[2][0][0], TRUE)
        self.assertEqual(next_state(first, (), start_state(first, (), A), "down", B)[2][1][0], TRUE)
        self.assertIs(is_bad(first, (), start_state(first, (), Z)), False)


class Bad(unittest.TestCase):
    first = parse_selectors("a, b > *")
    second = parse_selectors("*.x, c")

    def check(self, walk, expected):
        state = states(self.first, self.second, walk)[-1]
        self.assertIs(is_bad(self.first, self.second, state), expected)

    def test_the_first_list_alone(self):
        self.check((("root", A),), True)
        self.check((("root", B), ("down", Z)), True)
        self.check((("root", Z), ("down", A)), True)

    def test_both_lists(self):
        self.check((("root", ("a", ("x",))),), False)
        self.check((("root", B), ("down", C)), False)

    def test_the_second_list_alone(self):
        self.check((("root", C),), False)
        self.check((("root", ("z", ("x",))),), False)

    def test_none_of_the_lists(self):
        self.check((("root", Z),), False)
        self.check((("root", A), ("down", Z)), False)

    def test_only_the_last_element_counts(self):
        self.check((("root", A), ("down", B)), False)
        self.check((("root", A), ("down", A), ("right", Z)), False)

    def test_a_part_is_not_a_selector(self):
        first = parse_selectors("a > b")
        self.assertIs(is_bad(first, (), start_state(first, (), A)), False)
        self.assertIs(is_bad(first, (), states(first, (), walk_of("a d b"))[-1]), True)
        second = parse_selectors("a > b")
        self.assertIs(is_bad(parse_selectors("a"), second, start_state(parse_selectors("a"), second, A)), True)

    def test_empty_lists(self):
        self.assertIs(is_bad((), (), (0, 0, ())), False)
        self.assertIs(is_bad((), self.first, start_state((), self.first, A)), False)
        self.assertIs(is_bad(self.first, (), start_state(self.first, (), A)), True)

    def test_against_the_definition(self):
        for seed in range(150):
            draw = random.Random(seed)
            first, second = drawn.selectors(draw, 2, 2), drawn.selectors(draw, 2, 2)
            walk = drawn.walk(draw, letters(first, second), draw.randint(1, 5))
            state = states(first, second, walk)[-1]
            self.assertIs(is_bad(first, second, state), plain.is_bad(first, second, walk))


class Arguments(unittest.TestCase):
    def test_they_stay_as_they_were(self):
        first, second = parse_selectors("a.x > b:2+1, *!a"), parse_selectors("b ~ a")
        walk = walk_of("a d b r a d b")
        state = states(first, second, walk)[-1]
        before = copy.deepcopy((first, second, walk, state, A))
        letters(first, second)
        walk_document(walk)
        start_state(first, second, A)
        next_state(first, second, state, "right", A)
        is_bad(first, second, state)
        self.assertEqual((first, second, walk, state, A), before)


if __name__ == "__main__":
    unittest.main()
