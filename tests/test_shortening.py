"""Points 500 to 503: sheets without the declarations that decide nothing."""

import copy
import functools
import itertools
import random
import unittest

import drawn
import plain
import plainstyles
from treegarb.cascade import deciding, styles
from treegarb.deciding import contained
from treegarb.errors import TooMany
from treegarb.notation import parse_selectors, selectors_text
from treegarb.sheets import check_sheet
from treegarb.shortening import dropped, shorten, single_rules
from treegarb.walks import walk_document

RED = ("word", "red")
GREEN = ("word", "green")
COLOR = ("color", RED, False)
STRONG = ("color", GREEN, True)
WIDTH = ("width", RED, False)
VA = ("va", RED, False)
DEFAULTS = (("color", True, ("word", "black")), ("width", False, ("word", "auto")))

# A selector of five marks, so that `contained` raises TooMany for it.
HARD = "*.a *.b *.c *.d *.e"

# Selectors that match nothing: they take a place among the six without a need for further states.
NOTHING = ("a!a", "b!b", "c!c", "d!d", "e!e", "a!a!b")


def rule(text, *declarations):
    return (parse_selectors(text), declarations)


def sheet(*rules):
    return (DEFAULTS, rules)


def read(found):
    """The rules of a sheet, with the texts of their selectors in the place of these."""
    return [(selectors_text(selectors), declarations) for selectors, declarations in found[1]]


@functools.lru_cache(maxsize=None)
def says_yes(first, second):
    try:
        return contained(first, second)[0] == "yes"
    except TooMany:
        return False


def narrow(draw, rules=7, most=2, names=("color", "width", "va")):
    """A sheet in which many declarations do not decide anything."""
    how = {"kinds": "a", "marks": "x", "plain": draw.choice((0.6, 0.8)), "pairs": ((0, 1), (0, 2), (2, 0), (1, 2))}
    defaults, found = drawn.sheet(draw, rules, most, draw.choice((1, 2)), names, **how)
    return (defaults, found)


def documents(draw, many, kinds="abz", marks="xy"):
    return [drawn.document(draw, draw.randint(1, 14), kinds, marks) for _ in range(many)]


class SingleRules(unittest.TestCase):
    def test_a_rule_stands_for_one_of_each_selector(self):
        found = single_rules(sheet(rule("a, b.x > *, a", COLOR, WIDTH), rule("*"), rule("b, *:2+1", VA)))
        self.assertEqual(
            read(found),
            [
                ("a", (COLOR, WIDTH)), ("b.x > *", (COLOR, WIDTH)), ("a", (COLOR, WIDTH)),
                ("*", ()), ("b", (VA,)), ("*:2+1", (VA,)),
            ],
        )
        self.assertEqual(found[0], DEFAULTS)

    def test_single_rules_stay(self):
        for one in (sheet(), ((), ()), sheet(rule("a", COLOR), rule("a", COLOR), rule("b"))):
            self.assertEqual(single_rules(one), one)
            self.assertEqual(single_rules(single_rules(one)), one)

    def test_more_than_20_rules(self):
        many = check_sheet(sheet(*[rule("a, b, *, a b, a > b, *.x", COLOR)] * 20))
        found = single_rules(many)
        self.assertEqual(len(found[1]), 120)
        self.assertTrue(all(len(selectors) == 1 for selectors, _ in found[1]))
        self.assertEqual(single_rules(found), found)

    def test_drawn_sheets(self):
        for seed in range(80):
            draw = random.Random(seed)
            one = drawn.sheet(draw, draw.randint(0, 12), 4, 2, plain=0.7)
            found = single_rules(one)
            self.assertEqual(found, plainstyles.single_rules(one))
            for tree in documents(draw, 6):
                self.assertEqual(styles(found, tree), styles(one, tree))


class Dropped(unittest.TestCase):
    def check(self, expected, *rules):
        one = sheet(*rules)
        self.assertEqual(dropped(one), expected)
        self.assertEqual(plainstyles.dropped(one, says_yes), expected)

    def test_nothing(self):
        self.check([])
        self.check([], rule("*"))
        self.check([], rule("a", COLOR), rule("b", COLOR))
        self.check([], rule("*", COLOR, WIDTH, VA))
        self.check([], rule("*", COLOR), rule("a", COLOR))

    def test_a_later_rule(self):
        self.check([(0, 0)], rule("a", COLOR), rule("a", COLOR))
        self.check([(0, 0), (1, 0)], rule("a", COLOR), rule("a", COLOR), rule("a", STRONG))
        self.check([(1, 0)], rule("a b", COLOR), rule("* b", COLOR), rule("a", COLOR), rule("*!a b", STRONG))

    def test_a_later_position(self):
        self.check([(0, 0)], rule("a", COLOR, COLOR))
        self.check([(0, 0), (0, 2)], rule("a", COLOR, WIDTH, COLOR, COLOR))

    def test_the_same_declaration_is_one_all_the_same(self):
        self.check([(0, 0), (0, 1), (0, 2)], rule("*", COLOR, COLOR, COLOR, COLOR))

    def test_the_weight(self):
        # The more special selector comes later, or weighs more, but does not match all.
        self.check([], rule("a", COLOR), rule("a.x", COLOR))
        self.check([], rule("a.x", COLOR), rule("a", COLOR))
        self.check([], rule("*", COLOR), rule("a", COLOR))
        self.check([(1, 0)], rule("*:1+1", COLOR), rule("a", COLOR))
        self.check([(1, 0)], rule("*:1+1", COLOR), rule("a", COLOR), rule("*", WIDTH))
        self.check([(0, 0)], rule("a", COLOR), rule("*:1+1", COLOR))
        # The weight of the later one is the lesser one, though it matches more.
        self.check([], rule("a.x", COLOR), rule("*.x", COLOR), rule("a.y", COLOR))

    def test_strong_declarations(self):
        self.check([(1, 0)], rule("*", STRONG), rule("a", COLOR))
        self.check([(0, 1)], rule("a", STRONG, COLOR))
        self.check([], rule("a", STRONG), rule("*", COLOR))
        self.check([(0, 0)], rule("a", STRONG), rule("*:1+1", STRONG))

    def test_other_properties_do_not_count(self):
        self.check([], rule("a", COLOR), rule("a", WIDTH), rule("a", VA))
        self.check([(0, 1), (0, 2)], rule("a", COLOR, WIDTH, VA), rule("*:1+1", WIDTH, VA))

    def test_the_value_does_not_matter(self):
        for value in (("inherit",), ("initial",), ("use", "va"), ("number", 3), GREEN):
            self.check([(0, 0)], rule("a", COLOR), rule("a", ("color", value, False)))
            self.check([(0, 0)], rule("a", ("color", value, False)), rule("a", COLOR))

    def test_selectors_that_match_nothing(self):
        self.check([(0, 0)], rule("a!a", COLOR))
        self.check([(0, 0), (0, 1), (2, 0)], rule("*:0+0 > a", COLOR, WIDTH), rule("a", COLOR), rule("*.x!.x", STRONG))

    def test_several_together(self):
        self.check([(0, 0)], rule("*", COLOR), rule("*:2+1", COLOR), rule("*:2+0", COLOR))
        self.check([(0, 0)], rule("*", COLOR), rule("*.x", COLOR), rule("*!.x", STRONG))
        self.check([], rule("*", COLOR), rule("*:3+1", COLOR), rule("*:3+2", COLOR))
        self.check([(2, 0)], rule("a:2+1", COLOR), rule("a:2+0", COLOR), rule("a", COLOR))
        self.check([(0, 0)], rule("* > *", COLOR), rule("*:0+1", COLOR), rule("* + *:1+1", COLOR))

    def test_what_is_dropped_itself_still_counts(self):
        self.check([(0, 0), (1, 0)], rule("a b", COLOR), rule("a b", COLOR), rule("* b:1+1", COLOR))

    def test_the_order_of_the_pairs(self):
        found = dropped(sheet(*[rule("a.x", COLOR, WIDTH, VA)] * 12))
        self.assertEqual(found, [(at, position) for at in range(11) for position in range(3)])
        self.assertIs(found.__class__, list)
        self.assertTrue(all(pair.__class__ is tuple for pair in found))

    def test_drawn_sheets(self):
        many = few = 0
        for seed in range(50):
            draw = random.Random(seed)
            one = single_rules(narrow(draw))
            found = dropped(one)
            self.assertEqual(found, plainstyles.dropped(one, says_yes))
            many += len(found)
            few += sum(len(declarations) for _, declarations in one[1]) - len(found)
        self.assertGreater(many, 150)
        self.assertGreater(few, 150)

    def test_the_argument_stays_as_it_was(self):
        one = sheet(rule("a", COLOR, WIDTH), rule("*:1+1", COLOR))
        before = copy.deepcopy(one)
        dropped(one)
        single_rules(one)
        shorten(one)
        self.assertEqual(one, before)


class Limits(unittest.TestCase):
    def first_is_dropped(self, *rules):
        """Whether the first declaration of the first rule is dropped."""
        one = sheet(*rules)
        found = dropped(one)
        self.assertEqual(found, plainstyles.dropped(one, says_yes))
        return (0, 0) in found

    def test_the_first_six_ranks(self):
        # One selector is enough; so many others have a greater rank than it.
        for many in range(7):
            others = [rule(text, COLOR) for text in NOTHING[:many]]
            rules = (rule("a", COLOR), rule("a", COLOR), *others)
            self.assertIs(self.first_is_dropped(*rules), many < 6)

    def test_a_selector_that_is_not_used_is_missed(self):
        # The sheet lets the declaration decide nothing, but the seventh selector would have to tell.
        one = sheet(rule("a", COLOR), rule("a", COLOR), *[rule(text, COLOR) for text in NOTHING])
        self.assertNotIn((0, 0), dropped(one))
        tree = ("a", (), tuple(("a", (), ()) for _ in range(3)))
        for place in plain.places(tree):
            self.assertEqual(deciding(one, tree, place, "color"), (1, 0))

    def test_two_selectors_that_are_needed(self):
        for many in range(6):
            others = [rule(text, COLOR) for text in NOTHING[:many]]
            rules = (rule("a", COLOR), rule("*.x", COLOR), rule("*!.x", COLOR), *[(row, (STRONG,)) for row, _ in others])
            self.assertIs(self.first_is_dropped(*rules), many < 5)

    def test_selectors_with_a_lower_rank_do_not_take_a_place(self):
        weaker = [rule("*", *[COLOR] * 8), rule("*", *[COLOR] * 8)]
        one = sheet(*weaker, rule("a", COLOR), rule("a", COLOR))
        self.assertIn((2, 0), dropped(one))
        one = sheet(rule("a", COLOR), *weaker, rule("a", COLOR))
        self.assertIn((0, 0), dropped(one))

    def test_the_ranks_are_those_of_point_401(self):
        others = [rule(text, COLOR) for text in NOTHING]
        # The rule that is enough is the first one, but it is strong, or weighs more than the others.
        for text, declared, expected in (
            ("*", STRONG, True), ("a", STRONG, True), ("a:1+1", COLOR, True), ("*:1+1", COLOR, True),
            ("a", COLOR, False), ("a!b", COLOR, False), ("a!b!c!d", COLOR, True),
        ):
            with self.subTest(text=text, declared=declared):
                found = dropped(sheet(rule(text, declared), rule("a", COLOR), *others))
                self.assertIs((1, 0) in found, expected)

    def test_each_declaration_brings_its_selector(self):
        # The selector b stands for six declarations with the greatest ranks.
        self.assertEqual(dropped(sheet(rule("a", COLOR), rule("a", COLOR), rule("b", *[COLOR] * 6))),
                         [(2, position) for position in range(5)])
        self.assertEqual(dropped(sheet(rule("a", COLOR), rule("a", COLOR), rule("b", *[COLOR] * 5))),
                         [(0, 0), *[(2, position) for position in range(4)]])

    def test_declarations_of_other_properties_do_not_take_a_place(self):
        others = [rule(kind, WIDTH, VA) for kind in "bcdefgh"]
        self.assertEqual(dropped(sheet(rule("a", COLOR), rule("a", COLOR), *others)), [(0, 0)])

    def test_too_many_letters(self):
        # Five marks, or six kinds, in the selectors together.
        with self.assertRaises(TooMany):
            contained(parse_selectors(HARD), parse_selectors(HARD))
        self.assertFalse(self.first_is_dropped(rule(HARD, COLOR), rule(HARD, COLOR)))
        rules = (rule("a", COLOR), rule("a", COLOR))
        self.assertTrue(self.first_is_dropped(*rules, *[rule(f"{kind}!{kind}", COLOR) for kind in "bcde"]))
        self.assertFalse(self.first_is_dropped(*rules, *[rule(f"{kind}!{kind}", COLOR) for kind in "bcdef"]))

    def test_too_many_letters_by_a_selector_that_is_not_needed(self):
        one = sheet(rule("a.x", COLOR), rule("a.x", COLOR), rule("*.p.q.r", COLOR), rule("*.p.q.s", COLOR))
        self.assertEqual(dropped(one), [])
        one = sheet(rule("a.x", COLOR), rule("a.x", COLOR), rule("*.p.q.r", COLOR))
        self.assertEqual(dropped(one), [(0, 0)])

    def test_too_many_states(self):
        text = "*.a *.b ~ *.c *.d ~ *:6+5"
        with self.assertRaises(TooMany):
            contained(parse_selectors(text), parse_selectors(text))
        self.assertEqual(dropped(sheet(rule(text, COLOR), rule(text, COLOR))), [])
        # The one with the greatest rank is kept for another reason.
        self.assertEqual(dropped(sheet(rule("*.a *.b", COLOR), rule("*.a *.b", COLOR))), [(0, 0)])

    def test_too_many_of_one_does_not_keep_others(self):
        one = sheet(rule(HARD, COLOR), rule(HARD, COLOR), rule("b", WIDTH), rule("b", WIDTH, WIDTH))
        self.assertEqual(dropped(one), [(2, 0), (3, 0)])


class Exactly(unittest.TestCase):
    """Points 2 and 500: what decides somewhere is kept, and nothing else, within the limits."""

    def test_what_is_kept_decides_in_some_document(self):
        shown = 0
        for seed in range(100, 150):
            one = single_rules(narrow(random.Random(seed)))
            gone = dropped(one)
            for at, (selectors, declarations) in enumerate(one[1]):
                for position, (name, _, _) in enumerate(declarations):
                    others = tuple(plainstyles.greater(one, at, position))
                    if (at, position) in gone or len(others) > 6:
                        continue
                    try:
                        answer, walk = contained(selectors, others)
                    except TooMany:
                        continue
                    self.assertEqual(answer, "no")
                    tree, place = walk_document(walk)
                    self.assertEqual(deciding(one, tree, place, name), (at, position))
                    shown += 1
        self.assertGreater(shown, 150)

    def test_what_is_dropped_decides_in_no_document(self):
        for seed in range(150, 200):
            draw = random.Random(seed)
            one = single_rules(narrow(draw))
            gone = dropped(one)
            for tree in documents(draw, 5, "az", "x"):
                for place, name in itertools.product(plain.places(tree), ("color", "width", "va")):
                    self.assertNotIn(deciding(one, tree, place, name), gone)


class Shorten(unittest.TestCase):
    def check(self, expected, *rules):
        one = sheet(*rules)
        self.assertEqual(read(shorten(one)), expected)
        self.assertEqual(shorten(one)[0], DEFAULTS)

    def test_nothing_to_drop(self):
        self.check([])
        self.check([("a", (COLOR,))], rule("a", COLOR))
        self.check([("a", (COLOR,)), ("b", (COLOR,))], rule("a", COLOR), rule("b", COLOR))

    def test_empty_rules(self):
        self.check([], rule("*"), rule("a, b"))
        self.check([("a", (COLOR,))], rule("*"), rule("a", COLOR), rule("a"))
        self.check([("a", (COLOR,)), ("b", (WIDTH,))], rule("a", COLOR), rule("*"), rule("a!a", WIDTH), rule("b", WIDTH))

    def test_dropped_declarations(self):
        self.check([("a", (WIDTH,)), ("*:1+1", (COLOR,))], rule("a", COLOR, WIDTH), rule("*:1+1", COLOR))
        self.check([("b", (COLOR,)), ("a", (COLOR,))], rule("a", COLOR), rule("b, a", COLOR))

    def test_the_kept_declarations_stay_in_their_order(self):
        other = ("color", GREEN, False)
        self.check([("a", (WIDTH, VA, other))], rule("a", COLOR, WIDTH, VA, other))
        self.check([("a", (VA, COLOR, WIDTH))], rule("a", VA, COLOR, WIDTH))

    def test_several_selectors(self):
        self.check([("a", (COLOR,)), ("b", (COLOR,))], rule("a, b", COLOR))
        self.check([("a", (COLOR,))], rule("a, a, a", COLOR))
        # The weights let the first of them decide.
        self.check([("*.x", (COLOR,)), ("*", (COLOR,))], rule("*.x, *", COLOR))
        self.check([("*:1+1", (COLOR,))], rule("*:1+1, *, a", COLOR))

    def test_rules_are_joined(self):
        self.check([("a", (COLOR, WIDTH))], rule("a", COLOR), rule("a", WIDTH))
        self.check([("a", (VA, WIDTH, COLOR))], rule("a", COLOR, VA), rule("a", WIDTH, COLOR))
        self.check([("a", (COLOR, WIDTH, VA))], rule("a", COLOR), rule("a", WIDTH), rule("a", VA))

    def test_only_neighbours_are_joined(self):
        self.check([("a", (COLOR,)), ("b", (COLOR,)), ("a", (WIDTH,))],
                   rule("a", COLOR), rule("b", COLOR), rule("a", WIDTH))

    def test_rules_are_joined_across_what_is_gone(self):
        self.check([("a", (COLOR, WIDTH))], rule("a", COLOR), rule("b"), rule("a", WIDTH))
        self.check([("a", (COLOR, WIDTH)), ("b:1+1", (VA,))],
                   rule("a", COLOR), rule("b", VA), rule("a", WIDTH), rule("b:1+1", VA))

    def test_only_equal_selectors_are_joined(self):
        self.check([("a", (COLOR,)), ("a!b", (WIDTH,))], rule("a", COLOR), rule("a!b", WIDTH))
        self.check([("a > b", (COLOR,)), ("a b", (WIDTH,))], rule("a > b", COLOR), rule("a b", WIDTH))

    def test_eight_declarations_at_most(self):
        names = ["v" + letter for letter in "abcdefghijklmnopqrstuvwxyz"]
        every = [(name, RED, False) for name in names]
        for sizes, expected in (
            ((4, 4), [8]), ((4, 5), [4, 5]), ((8, 1), [8, 1]), ((7, 1), [8]), ((1, 8), [1, 8]),
            ((3, 3, 3), [6, 3]), ((3, 3, 2), [8]), ((3, 3, 2, 1), [8, 1]), ((5, 5, 3), [5, 8]), ((8, 8, 8), [8, 8, 8]),
            ((1,) * 17, [8, 8, 1]), ((6, 3, 2, 4), [6, 5, 4]), ((6, 3, 2, 3), [6, 8]),
        ):
            with self.subTest(sizes=sizes):
                rules = []
                begin = 0
                for size in sizes:
                    rules.append(rule("a", *every[begin: begin + size]))
                    begin += size
                found = read(shorten(sheet(*rules)))
                self.assertEqual([len(declarations) for _, declarations in found], expected)
                self.assertEqual([entry for _, row in found for entry in row], every[:begin])

    def test_the_size_without_what_is_dropped(self):
        # Five and five declarations, of which one is dropped twice.
        first = [("v" + letter, RED, False) for letter in "abcde"]
        second = [("v" + letter, RED, False) for letter in "defgh"]
        found = read(shorten(sheet(rule("a", *first), rule("a", *second))))
        self.assertEqual(found, [("a", tuple(first[:3] + second))])

    def test_joining_does_not_change_who_decides(self):
        self.check([("a", (STRONG, WIDTH))], rule("a", STRONG), rule("a", COLOR, WIDTH))
        self.check([("a", (STRONG,))], rule("a", COLOR), rule("a", STRONG), rule("a", COLOR))

    def test_drawn_sheets(self):
        joined = 0
        for seed in range(60):
            draw = random.Random(seed)
            one = narrow(draw, draw.randint(0, 9), 3, draw.choice((("color", "va"), drawn.NAMES)))
            found = shorten(one)
            self.assertEqual(found, plainstyles.shorten(one, says_yes))
            single = single_rules(one)
            kept = [len(row) for _, row in single[1]]
            joined += len(single[1]) - kept.count(0) - len(found[1])
            for tree in documents(draw, 5):
                self.assertEqual(styles(found, tree), styles(one, tree))
        self.assertGreater(joined, 50)

    def test_every_small_document(self):
        trees = [walk_document(walk)[0] for walk in plain.walks([("a", ()), ("a", ("x",)), ("z", ())], 4)]
        for seed in range(25):
            one = narrow(random.Random(seed))
            found = shorten(one)
            for tree in trees:
                self.assertEqual(styles(found, tree), styles(one, tree))

    def test_a_sheet_of_more_than_20_rules(self):
        draw = random.Random(5)
        one = check_sheet(drawn.sheet(draw, 20, 6, 3, declared=8, plain=0.8))
        found = shorten(one)
        self.assertEqual(shorten(single_rules(one)), found)
        self.assertGreater(len(single_rules(one)[1]), 40)
        for tree in documents(draw, 20):
            self.assertEqual(styles(found, tree), styles(one, tree))

    def test_shortening_twice(self):
        for seed in range(40):
            one = shorten(narrow(random.Random(seed)))
            tree = drawn.document(random.Random(seed), 30)
            self.assertEqual(styles(shorten(one), tree), styles(one, tree))


if __name__ == "__main__":
    unittest.main()
