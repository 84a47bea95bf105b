"""Points 401 to 403: which declaration decides, and the styles of elements."""

import copy
import random
import unittest

import drawn
import plain
import plainstyles
from treegarb.cascade import deciding, style_of, styles
from treegarb.errors import BadPlace
from treegarb.notation import parse_selectors
from treegarb.sheets import check_sheet

BLACK = ("word", "black")
RED = ("word", "red")
GREEN = ("word", "green")
BLUE = ("word", "blue")
AUTO = ("word", "auto")
INHERIT = ("inherit",)
INITIAL = ("initial",)
# A property of each kind: the first one is inherited, the second one is not.
DEFAULTS = (("color", True, BLACK), ("width", False, AUTO))

# A root a with the children b.x and c; c has a child b.
TREE = ("a", (), (("b", ("x",), ()), ("c", (), (("b", (), ()),))))
ALL = [(), (0,), (1,), (1, 0)]


def use(name):
    return ("use", name)


def rule(text, *declarations):
    """A rule of a text and of declarations, which are pairs, or triples if they are strong."""
    return (parse_selectors(text), tuple((*entry, False)[:3] for entry in declarations))


def sheet(*rules, defaults=DEFAULTS):
    return check_sheet((defaults, rules))


def colors(*rules, tree=TREE):
    return [dict(style)["color"] for style in styles(sheet(*rules), tree)]


def widths(*rules, tree=TREE):
    return [dict(style)["width"] for style in styles(sheet(*rules), tree)]


def shown(value, *rules, defaults=DEFAULTS):
    """What the width of a lone root is, if its value is this one, with further rules."""
    style = style_of(sheet(rule("*", ("width", value)), *rules, defaults=defaults), ("a", (), ()), ())
    return dict(style)["width"]


class Deciding(unittest.TestCase):
    def check(self, expected, *rules, tree=("a", ("x", "y"), ()), place=(), name="color"):
        self.assertEqual(deciding(sheet(*rules), tree, place, name), expected)
        self.assertEqual(plainstyles.deciding(sheet(*rules), tree, place, name), expected)

    def test_no_declaration(self):
        self.check(None)
        self.check(None, rule("*"))
        self.check(None, rule("*", ("width", AUTO)))
        self.check(None, rule("b", ("color", RED)))
        self.check(None, rule("*", ("color", RED)), name="width")
        self.check(None, rule("*", ("color", RED)), name="va")
        self.check(None, rule("*", ("color", RED)), name="nothing")

    def test_one_declaration(self):
        self.check((0, 0), rule("a", ("color", RED)))
        self.check((0, 1), rule("a", ("width", AUTO), ("color", INHERIT)))
        self.check((2, 0), rule("b", ("color", RED)), rule("*"), rule("*", ("color", INITIAL)))
        self.check((0, 0), rule("b, a", ("va", RED)), name="va")

    def test_the_position(self):
        self.check((0, 1), rule("*", ("color", RED), ("color", GREEN)))
        self.check((0, 2), rule("*", ("color", RED), ("color", GREEN), ("color", RED)))
        self.check((0, 7), rule("*", *[("color", RED)] * 8))

    def test_the_rule(self):
        self.check((1, 0), rule("*", ("color", RED), ("color", RED)), rule("*", ("color", GREEN)))
        self.check((12, 0), *[rule("*", ("color", RED))] * 13)

    def test_the_rule_before_the_position(self):
        self.check((1, 0), rule("*", ("width", AUTO), ("color", RED)), rule("*", ("color", GREEN)))

    def test_the_weight_before_the_rule(self):
        self.check((0, 0), rule("a", ("color", RED)), rule("*", ("color", GREEN)))
        self.check((0, 0), rule("*.x", ("color", RED)), rule("a", ("color", GREEN)))
        self.check((0, 0), rule("*.x.y", ("color", RED)), rule("a.x", ("color", GREEN)), rule("*.y", ("color", RED)))
        self.check((0, 0), rule("a.x", ("color", RED)), rule("*.y", ("color", RED)), rule("*!b!c", ("color", RED)))
        self.check((0, 0), rule("*:1+1", ("color", RED)), rule("a!b!c", ("color", GREEN)))
        self.check((0, 0), rule("*!.z", ("color", RED)), rule("a", ("color", GREEN)))
        self.check((0, 0), rule("*!b!c", ("color", RED)), rule("a", ("color", GREEN)))

    def test_equal_weights(self):
        self.check((1, 0), rule("*.x", ("color", RED)), rule("*.y", ("color", GREEN)))
        self.check((1, 0), rule("*.x", ("color", RED)), rule("*:0+1", ("color", GREEN)))
        self.check((1, 0), rule("*!.z", ("color", RED)), rule("*.y", ("color", GREEN)))
        self.check((1, 0), rule("a", ("color", RED)), rule("*!b", ("color", GREEN)))

    def test_the_weight_counts_all_parts(self):
        tree = ("a", ("x",), (("b", (), ()),))
        self.check((0, 0), rule("a > b", ("color", RED)), rule("b", ("color", GREEN)), tree=tree, place=(0,))
        self.check((0, 0), rule("*.x > *", ("color", RED)), rule("a > b", ("color", GREEN)), tree=tree, place=(0,))

    def test_strong_before_the_weight(self):
        self.check((0, 0), rule("*", ("color", RED, True)), rule("a.x.y", ("color", GREEN)))
        self.check((0, 0), rule("*", ("color", RED, True), ("color", GREEN)))
        self.check((1, 0), rule("*", ("color", RED, True)), rule("a.x.y", ("color", GREEN, True)))
        self.check((0, 1), rule("*", ("color", RED, True), ("color", GREEN, True)), rule("*", ("color", GREEN)))

    def test_the_greatest_weight_of_the_selectors_that_match(self):
        self.check((0, 0), rule("*, a.x", ("color", RED)), rule("a", ("color", GREEN)))
        self.check((0, 0), rule("a.x, *", ("color", RED)), rule("a", ("color", GREEN)))
        self.check((1, 0), rule("*, a.x.z", ("color", RED)), rule("a", ("color", GREEN)))
        self.check((1, 0), rule("b.x.y, *", ("color", RED)), rule("a", ("color", GREEN)))
        self.check((1, 0), rule("a.x, *", ("color", RED)), rule("*, a.y", ("color", GREEN)))

    def test_the_weight_is_that_for_this_element(self):
        rules = (rule("*.x, *", ("color", RED)), rule("b", ("color", GREEN)))
        self.check((0, 0), *rules, tree=TREE, place=(0,))
        self.check((1, 0), *rules, tree=TREE, place=(1, 0))
        self.check((0, 0), *rules, tree=TREE, place=(1,))

    def test_positions_with_several_selectors(self):
        self.check((0, 1), rule("*, a, a.x", ("color", RED), ("color", GREEN)))
        self.check((0, 0), rule("*, a, a.x", ("color", RED, True), ("color", GREEN)))

    def test_other_properties_do_not_compete(self):
        rules = (rule("*", ("color", RED)), rule("a.x", ("width", RED, True), ("va", RED, True)))
        self.check((0, 0), *rules)
        self.check((1, 0), *rules, name="width")
        self.check((1, 1), *rules, name="va")

    def test_it_returns_a_pair(self):
        found = deciding(sheet(rule("*", ("color", RED))), TREE, (1, 0), "color")
        self.assertIs(found.__class__, tuple)
        self.assertEqual([entry.__class__ for entry in found], [int, int])


class Styles(unittest.TestCase):
    def test_without_declarations(self):
        for empty in (sheet(), sheet(rule("*"))):
            self.assertEqual(style_of(empty, TREE, (1, 0)), (("color", BLACK), ("width", AUTO)))
            self.assertEqual(styles(empty, TREE), [(("color", BLACK), ("width", AUTO))] * 4)

    def test_without_defaults(self):
        self.assertEqual(styles(((), (rule("*", ("va", RED)),)), TREE), [()] * 4)
        self.assertEqual(style_of(((), ()), TREE, ()), ())

    def test_a_style_ascends_by_the_property(self):
        many = tuple((name, False, ("number", at)) for at, name in enumerate(("a", "aa", "b", "ba", "w", "z")))
        style = style_of(sheet(rule("*", ("z", RED), ("b", GREEN)), defaults=many), TREE, (0,))
        self.assertEqual([name for name, _ in style], ["a", "aa", "b", "ba", "w", "z"])
        self.assertEqual(style[2], ("b", GREEN))
        self.assertEqual(style[5], ("z", RED))
        self.assertEqual(style[3], ("ba", ("number", 3)))

    def test_variables_are_not_in_the_style(self):
        self.assertEqual(styles(sheet(rule("*", ("va", RED))), TREE), [(("color", BLACK), ("width", AUTO))] * 4)

    def test_the_order_of_the_list(self):
        tree = ("a", (), (("b", (), (("c", (), ()), ("d", (), ()))), ("e", (), (("f", (), ()),))))
        rules = [rule(kind, ("width", ("word", kind))) for kind in "abcdef"]
        self.assertEqual(widths(*rules, tree=tree), [("word", kind) for kind in "abcdef"])

    def test_the_kinds_of_what_is_returned(self):
        found = styles(sheet(), TREE)
        self.assertIs(found.__class__, list)
        for style in (*found, style_of(sheet(), TREE, ())):
            self.assertIs(style.__class__, tuple)
            self.assertTrue(all(entry.__class__ is tuple and len(entry) == 2 for entry in style))

    def test_a_word_and_a_number_give_themselves(self):
        self.assertEqual(widths(rule("*", ("width", ("number", -7)))), [("number", -7)] * 4)
        self.assertEqual(widths(rule("b", ("width", RED))), [AUTO, RED, AUTO, RED])
        self.assertEqual(shown(("word", "inherit")), ("word", "inherit"))
        self.assertEqual(shown(("number", 0)), ("number", 0))

    def test_an_inherited_property(self):
        self.assertEqual(colors(rule("a", ("color", RED))), [RED] * 4)
        self.assertEqual(colors(rule("c", ("color", RED))), [BLACK, BLACK, RED, RED])
        self.assertEqual(colors(rule("c, a", ("color", RED)), rule("c > *", ("color", BLUE))), [RED, RED, RED, BLUE])

    def test_a_property_that_is_not_inherited(self):
        self.assertEqual(widths(rule("a", ("width", RED))), [RED, AUTO, AUTO, AUTO])
        self.assertEqual(widths(rule("c", ("width", RED))), [AUTO, AUTO, RED, AUTO])

    def test_inherit(self):
        self.assertEqual(widths(rule("a", ("width", RED)), rule("c", ("width", INHERIT))), [RED, AUTO, RED, AUTO])
        self.assertEqual(
            widths(rule("a", ("width", RED)), rule("c, c *", ("width", INHERIT))), [RED, AUTO, RED, RED]
        )
        self.assertEqual(widths(rule("*", ("width", INHERIT))), [AUTO] * 4)
        self.assertEqual(colors(rule("*", ("color", INHERIT))), [BLACK] * 4)
        self.assertEqual(colors(rule("a", ("color", RED)), rule("b", ("color", INHERIT))), [RED] * 4)

    def test_inherit_at_the_root_is_the_default(self):
        for value in (INHERIT, INITIAL):
            found = style_of(sheet(rule("*", ("color", value), ("width", value))), ("a", (), ()), ())
            self.assertEqual(found, (("color", BLACK), ("width", AUTO)))

    def test_initial(self):
        self.assertEqual(colors(rule("a", ("color", RED)), rule("c", ("color", INITIAL))), [RED, RED, BLACK, BLACK])
        self.assertEqual(widths(rule("*", ("width", RED)), rule("c", ("width", INITIAL))), [RED, RED, AUTO, RED])

    def test_only_the_deciding_declaration_gives_a_value(self):
        self.assertEqual(widths(rule("*.x", ("width", RED)), rule("b", ("width", INHERIT))), [AUTO, RED, AUTO, AUTO])
        self.assertEqual(
            widths(rule("*", ("width", RED)), rule("b", ("width", use("va")))), [RED, AUTO, RED, AUTO]
        )
        self.assertEqual(widths(rule("*", ("width", RED, True)), rule("b", ("width", BLUE))), [RED] * 4)

    def test_the_ranks_decide_the_style(self):
        rules = (rule("*.x, *", ("width", RED)), rule("b", ("width", GREEN), ("width", BLUE)), rule("*", ("width", GREEN)))
        self.assertEqual(widths(*rules), [GREEN, RED, GREEN, BLUE])


class Variables(unittest.TestCase):
    def test_a_use(self):
        self.assertEqual(shown(use("va"), rule("*", ("va", RED))), RED)
        self.assertEqual(shown(use("va"), rule("*", ("va", ("number", -3)))), ("number", -3))

    def test_a_variable_without_a_value(self):
        self.assertEqual(shown(use("va")), AUTO)
        self.assertEqual(shown(use("va"), rule("b", ("va", RED))), AUTO)
        self.assertEqual(shown(use("va"), rule("*", ("va", INITIAL))), AUTO)
        self.assertEqual(shown(use("va"), rule("*", ("va", INHERIT))), AUTO)
        self.assertEqual(shown(use("va"), rule("*", ("vb", RED))), AUTO)

    def test_an_inherited_property_that_uses_a_variable_without_a_value(self):
        # The default, and not the value of the parent.
        self.assertEqual(
            colors(rule("a", ("color", RED)), rule("c", ("color", use("va")))), [RED, RED, BLACK, BLACK]
        )

    def test_variables_come_from_the_parent(self):
        self.assertEqual(widths(rule("a", ("va", RED)), rule("b", ("width", use("va")))), [AUTO, RED, AUTO, RED])
        self.assertEqual(
            widths(rule("a", ("va", RED)), rule("c", ("va", BLUE)), rule("*", ("width", use("va")))),
            [RED, RED, BLUE, BLUE],
        )
        self.assertEqual(
            widths(rule("a", ("va", RED)), rule("c", ("va", INHERIT)), rule("*", ("width", use("va")))), [RED] * 4
        )

    def test_initial_leaves_a_variable_without_a_value(self):
        self.assertEqual(
            widths(rule("a", ("va", RED)), rule("c", ("va", INITIAL)), rule("*", ("width", use("va")))),
            [RED, RED, AUTO, AUTO],
        )

    def test_variables_do_not_go_to_siblings_or_parents(self):
        self.assertEqual(widths(rule("*.x", ("va", RED)), rule("*", ("width", use("va")))), [AUTO, RED, AUTO, AUTO])
        self.assertEqual(widths(rule("c > b", ("va", RED)), rule("*", ("width", use("va")))), [AUTO, AUTO, AUTO, RED])

    def test_a_variable_that_uses_a_variable(self):
        self.assertEqual(shown(use("va"), rule("*", ("va", use("vb")), ("vb", RED))), RED)
        self.assertEqual(shown(use("va"), rule("*", ("vb", RED), ("va", use("vb")))), RED)
        self.assertEqual(shown(use("va"), rule("*", ("va", use("vb")), ("vb", use("vc")), ("vc", BLUE))), BLUE)
        self.assertEqual(shown(use("va"), rule("*", ("va", use("vb")))), AUTO)
        self.assertEqual(shown(use("va"), rule("*", ("va", use("vb")), ("vb", INITIAL))), AUTO)

    def test_a_use_is_of_the_same_element(self):
        # What va is for the root is kept below, though vb changes there.
        above = rule("a", ("va", use("vb")), ("vb", RED))
        self.assertEqual(widths(above, rule("c", ("vb", BLUE)), rule("*", ("width", use("va")))), [RED] * 4)
        again = rule("*", ("va", use("vb")))
        self.assertEqual(
            widths(rule("a", ("vb", RED)), rule("c", ("vb", BLUE)), again, rule("*", ("width", use("va")))),
            [RED, RED, BLUE, BLUE],
        )

    def test_a_use_of_a_variable_of_the_parent(self):
        self.assertEqual(
            widths(rule("a", ("vb", RED)), rule("c", ("va", use("vb"))), rule("*", ("width", use("va")))),
            [AUTO, AUTO, RED, RED],
        )

    def test_a_variable_that_uses_itself(self):
        self.assertEqual(shown(use("va"), rule("*", ("va", use("va")))), AUTO)
        # The value of the parent does not help.
        self.assertEqual(
            widths(rule("a", ("va", RED)), rule("c", ("va", use("va"))), rule("*", ("width", use("va")))),
            [RED, RED, AUTO, AUTO],
        )

    def test_rings(self):
        names = ("va", "vb", "vc", "vd", "ve")
        for length in range(1, 6):
            ring = names[:length]
            declared = [(name, use(other)) for name, other in zip(ring, (*ring[1:], ring[0]))]
            for name in ring:
                with self.subTest(length=length, name=name):
                    self.assertEqual(shown(use(name), rule("*", *declared)), AUTO)
                    self.assertEqual(shown(use(name), rule("*", *declared[::-1])), AUTO)

    def test_a_ring_below_elements_with_values(self):
        above = rule("a", ("va", RED), ("vb", BLUE))
        ring = rule("c", ("va", use("vb")), ("vb", use("va")))
        self.assertEqual(widths(above, ring, rule("*", ("width", use("va")))), [RED, RED, AUTO, AUTO])
        self.assertEqual(widths(above, ring, rule("*", ("width", use("vb")))), [BLUE, BLUE, AUTO, AUTO])

    def test_what_leads_to_a_ring(self):
        ring = rule("*", ("vb", use("vc")), ("vc", use("vb")))
        self.assertEqual(shown(use("va"), ring, rule("*", ("va", use("vb")))), AUTO)
        self.assertEqual(shown(use("vd"), rule("*", ("vd", use("va")), ("va", use("vc"))), ring), AUTO)

    def test_what_stands_beside_a_ring(self):
        ring = rule("*", ("vb", use("vc")), ("vc", use("vb")))
        self.assertEqual(shown(use("va"), ring, rule("*", ("va", RED))), RED)
        self.assertEqual(shown(use("va"), rule("*", ("va", use("vd")), ("vd", BLUE)), ring), BLUE)

    def test_a_ring_that_a_declaration_breaks(self):
        # Only deciding declarations make rings.
        broken = rule("*", ("va", use("vb")), ("vb", use("va")))
        self.assertEqual(shown(use("va"), broken, rule("a", ("vb", RED))), RED)
        self.assertEqual(shown(use("va"), rule("*", ("vb", INHERIT, True)), broken), AUTO)
        self.assertEqual(
            widths(rule("a", ("vb", RED)), broken, rule("c", ("vb", INHERIT)), rule("*", ("width", use("va")))),
            [RED, AUTO, RED, AUTO],
        )

    def test_a_ring_on_some_elements_only(self):
        rules = (rule("*", ("va", use("vb"))), rule("c", ("vb", use("va"))), rule("a", ("vb", GREEN)))
        self.assertEqual(widths(*rules, rule("*", ("width", use("va")))), [GREEN, GREEN, AUTO, AUTO])

    def test_variables_are_found_before_properties(self):
        # The style of the parent is inherited, and not its use of a variable.
        self.assertEqual(
            colors(rule("a", ("va", RED), ("color", use("va"))), rule("c", ("va", BLUE))), [RED] * 4
        )
        self.assertEqual(
            widths(rule("a", ("va", RED), ("width", use("va"))), rule("c", ("va", BLUE), ("width", INHERIT))),
            [RED, AUTO, RED, AUTO],
        )

    def test_the_ranks_decide_variables(self):
        self.assertEqual(shown(use("va"), rule("a", ("va", RED)), rule("*", ("va", BLUE))), RED)
        self.assertEqual(shown(use("va"), rule("a", ("va", RED)), rule("*", ("va", BLUE, True))), BLUE)

    def test_a_long_chain(self):
        names = ["v" + one + other for one in "abcdefgh" for other in "abcdefgh"]
        links = [(name, use(later)) for name, later in zip(names, names[1:])]
        rows = [rule("*", *links[at: at + 8]) for at in range(0, len(links), 8)]
        self.assertEqual(shown(use("vaa"), *rows, rule("*", ("vhh", RED))), RED)
        self.assertEqual(shown(use("vaa"), *rows[::-1]), AUTO)
        self.assertEqual(shown(use("vaa"), *rows, rule("*", ("vhh", use("vaa")))), AUTO)


class BadPlaces(unittest.TestCase):
    def test_deciding_and_style_of(self):
        for one in (sheet(), sheet(rule("*", ("color", RED)))):
            for place in ((2,), (0, 0), (1, 1), (1, 0, 0), (-1,), (1, -1), (7, 7), (0, 0, 0)):
                with self.subTest(place=place):
                    with self.assertRaises(BadPlace):
                        style_of(one, TREE, place)
                    for name in ("color", "va", "nothing"):
                        with self.assertRaises(BadPlace):
                            deciding(one, TREE, place, name)


class AgainstTheDefinitions(unittest.TestCase):
    def test_drawn_sheets_and_documents(self):
        seen = set()
        for seed in range(150):
            draw = random.Random(seed)
            one = drawn.sheet(draw, draw.randint(1, 14), 3, draw.choice((1, 1, 2, 3)), plain=draw.choice((0.6, 0.8)))
            tree = drawn.document(draw, draw.randint(1, 12))
            found = styles(one, tree)
            seen.update(found)
            self.assertEqual(found, plainstyles.styles(one, tree))
            for place, style in zip(plain.places(tree), found):
                self.assertEqual(style_of(one, tree, place), style)
                for name in drawn.NAMES:
                    self.assertEqual(deciding(one, tree, place, name), plainstyles.deciding(one, tree, place, name))
        self.assertGreater(len(seen), 120)

    def test_only_what_point_302_names_counts(self):
        for seed in range(60):
            draw = random.Random(seed)
            one = drawn.sheet(draw, 8, 2, 3, plain=0.7)
            tree = drawn.document(draw, 14)
            for place in plain.places(tree):
                # Without what stands behind the element and its ancestors, and below it.
                cut = plain.element(tree, place)[:2] + ((),)
                for length in reversed(range(len(place))):
                    kind, marks, children = plain.element(tree, place[:length])
                    cut = (kind, marks, (*children[: place[length]], cut))
                self.assertEqual(style_of(one, cut, place), style_of(one, tree, place))


class Bounds(unittest.TestCase):
    def test_sheets_of_many_rules(self):
        many = (DEFAULTS, tuple(rule("*", ("width", ("number", at))) for at in range(300)))
        self.assertEqual(deciding(many, TREE, (1,), "width"), (299, 0))
        self.assertEqual(style_of(many, TREE, (1,)), (("color", BLACK), ("width", ("number", 299))))
        self.assertEqual(styles(many, TREE), [(("color", BLACK), ("width", ("number", 299)))] * 4)

    def test_deep_documents(self):
        tree = ("b", (), ())
        for _ in range(400):
            tree = ("a", (), (tree,))
        one = sheet(rule("a", ("va", RED)), rule("b", ("width", use("va")), ("color", BLUE)))
        self.assertEqual(style_of(one, tree, (0,) * 400), (("color", BLUE), ("width", RED)))
        self.assertEqual(styles(one, tree)[399:], [(("color", BLACK), ("width", AUTO)), (("color", BLUE), ("width", RED))])
        self.assertEqual(deciding(one, tree, (0,) * 400, "color"), (1, 1))

    def test_broad_documents(self):
        tree = ("a", (), tuple(("b", (), ()) for _ in range(400)))
        one = sheet(rule("*:6+4", ("width", RED)))
        found = styles(one, tree)
        self.assertEqual([at for at in range(400) if dict(found[at + 1])["width"] == RED], list(range(3, 400, 6)))

    def test_the_greatest_sheet(self):
        draw = random.Random(7)
        one = check_sheet(drawn.sheet(draw, 20, 6, 5, declared=8, plain=0.8, kinds="abcde", marks="wxyz"))
        tree = drawn.document(draw, 200, "abcde", "wxyz")
        found = styles(one, tree)
        places = plain.places(tree)
        for at in draw.sample(range(200), 6):
            self.assertEqual(found[at], plainstyles.style_of(one, tree, places[at]))


class Arguments(unittest.TestCase):
    def test_they_stay_as_they_were(self):
        draw = random.Random(3)
        one, tree = drawn.sheet(draw, 8), drawn.document(draw)
        before = copy.deepcopy((one, tree))
        styles(one, tree)
        style_of(one, tree, (0,))
        deciding(one, tree, (0,), "color")
        self.assertEqual((one, tree), before)


if __name__ == "__main__":
    unittest.main()
