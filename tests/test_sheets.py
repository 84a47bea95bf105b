"""Point 400: the form of sheets."""

import copy
import random
import unittest

import drawn
from treegarb.errors import BadSelector, BadSheet
from treegarb.sheets import check_sheet

LONGEST = "abcdefghijkl"
ANY = (((None, (), (), 1, 0),), ())
A_B = ((("a", (), (), 1, 0), ("b", ("x",), (("kind", "c"), ("mark", "y")), 2, 1)), ("child",))
COLOR = ("color", True, ("word", "black"))
WIDTH = ("width", False, ("number", 0))
RED = ("color", ("word", "red"), False)
SHEET = ((COLOR, WIDTH), (((ANY,), (RED,)), ((A_B, ANY), (("va", ("number", 3), True), ("width", ("use", "va"), False)))))


def of_default(default):
    return ((default,), ())


def of_value(value):
    """A sheet with this value in its only declaration."""
    return ((COLOR,), (((ANY,), (("color", value, False),)),))


def of_declaration(declaration):
    return ((COLOR, WIDTH), (((ANY,), (declaration,)),))


def of_rule(rule):
    return ((COLOR, WIDTH), (rule,))


def named(many, inherited=False):
    """So many defaults, in ascending order."""
    return tuple(("a" + "bcdefghijklm"[index], inherited, ("number", index)) for index in range(many))


def replaced(value, path, other):
    """The value with another one at a path of indexes."""
    if path == ():
        return other
    row = list(value)
    row[path[0]] = replaced(row[path[0]], path[1:], other)
    return tuple(row)


def tuples(value, path=()):
    """The paths of all tuples in a value, itself included."""
    if not isinstance(value, tuple):
        return []
    found = [path]
    for index, item in enumerate(value):
        found.extend(tuples(item, (*path, index)))
    return found


def at(value, path):
    for index in path:
        value = value[index]
    return value


class Checked(unittest.TestCase):
    def good(self, *sheets):
        for sheet in sheets:
            with self.subTest(sheet=sheet):
                before = copy.deepcopy(sheet)
                self.assertIs(check_sheet(sheet), sheet)
                self.assertEqual(sheet, before)

    def bad(self, *values):
        for value in values:
            with self.subTest(value=value):
                with self.assertRaises(BadSheet) as caught:
                    check_sheet(value)
                self.assertIs(caught.exception.__class__, BadSheet)
                self.assertEqual(caught.exception.args, ())


class GoodSheets(Checked):
    def test_small_ones(self):
        self.good(((), ()), ((COLOR,), ()), ((), (((ANY,), ()),)), SHEET)

    def test_drawn_ones(self):
        for seed in range(200):
            draw = random.Random(seed)
            rules, most, longest = draw.randint(0, 20), draw.randint(1, 6), draw.randint(1, 5)
            sheet = drawn.sheet(draw, rules, most, longest, declared=8, plain=draw.choice((0.2, 0.6)))
            self.assertIs(check_sheet(sheet), sheet)

    def test_every_kind_of_value(self):
        for value in (
            ("word", "red"), ("word", LONGEST), ("word", "v"), ("number", 0), ("number", 1000000),
            ("number", -1000000), ("inherit",), ("initial",), ("use", "v"), ("use", "va"), ("use", "v" + LONGEST[:11]),
        ):
            self.good(of_value(value), of_declaration(("va", value, True)))

    def test_every_kind_of_default(self):
        for value in (("word", "auto"), ("word", "inherit"), ("number", 1000000), ("number", -1000000)):
            for inherited in (True, False):
                self.good(of_default(("color", inherited, value)), of_default((LONGEST, inherited, value)))

    def test_a_variable_needs_no_default(self):
        self.good(of_declaration(("v", ("word", "red"), False)), of_declaration(("vcolor", ("use", "vcolor"), True)))
        self.good(((), (((ANY,), (("va", ("use", "vb"), False),)),)))

    def test_the_greatest_numbers(self):
        self.good((named(10), ()))
        self.good((SHEET[0], SHEET[1] * 10))
        self.good(of_rule(((ANY, A_B) * 3, ())))
        self.good(of_rule(((ANY,), (RED,) * 8)))
        self.good((named(10), (((ANY,) * 6, (("ab", ("inherit",), True),) * 8),) * 20))

    def test_the_defaults_are_in_the_order_of_strings(self):
        self.good(((("a", True, ("number", 1)), ("aa", True, ("number", 1)), ("b", True, ("number", 1))), ()))

    def test_the_same_declaration_and_the_same_selector_twice(self):
        self.good(of_rule(((ANY, ANY), (RED, RED))), ((COLOR,), (((ANY,), (RED,)),) * 2))


class BadSheets(Checked):
    def test_other_values(self):
        self.bad(None, True, 0, "", "sheet", b"", [], {}, (), ((),), ((), (), ()), object(), ((), None), (None, ()))

    def test_a_list_instead_of_a_tuple(self):
        self.assertIs(check_sheet(SHEET), SHEET)
        paths = tuples(SHEET)
        self.assertGreater(len(paths), 30)
        for path in paths:
            self.bad(replaced(SHEET, path, list(at(SHEET, path))))

    def test_another_value_instead_of_a_tuple(self):
        for path in tuples(SHEET):
            for other in (None, True, 7, "abc", {}, b"ab", set()):
                self.bad(replaced(SHEET, path, other))

    def test_an_entry_too_many_or_too_few(self):
        fixed = [(), (0, 0), (0, 0, 2), (1, 0), (1, 0, 1, 0), (1, 0, 1, 0, 1), (1, 1, 1, 1, 1), (1, 1, 0, 0)]
        for path in fixed:
            row = at(SHEET, path)
            self.bad(replaced(SHEET, path, (*row, ())), replaced(SHEET, path, (*row, "red")))
            self.bad(replaced(SHEET, path, row[:-1]), replaced(SHEET, path, ()))

    def test_values(self):
        self.bad(*[
            of_value(value)
            for value in (
                ("word",), ("word", "red", "red"), ("word", "Red"), ("word", ""), ("word", LONGEST + "m"),
                ("word", 3), ("word", None), ("word", "a b"), ("word", ("red",)),
                ("number",), ("number", 1, 2), ("number", "1"), ("number", None), ("number", 1.0), ("number", (1,)),
                ("inherit", "color"), ("inherit", None), ("initial", "color"), ("inherit", ()),
                ("use",), ("use", "va", "vb"), ("use", "color"), ("use", ""), ("use", "Va"), ("use", "v1"),
                ("use", "v" + LONGEST), ("use", None), ("use", 3), ("use", ("va",)), ("use", "av"),
                ("unset",), ("text", "red"), ("Word", "red"), (None, "red"), ("red",), (1,), ("", ""), (("word",), "red"),
                "word", "inherit", "red", 3, None,
            )
        ])

    def test_numbers_beyond_the_bounds(self):
        for number in (1000001, -1000001, 10 ** 30, -(10 ** 30)):
            self.bad(of_value(("number", number)), of_default(("color", True, ("number", number))))

    def test_truth_values_for_integers(self):
        for truth in (True, False):
            self.bad(of_value(("number", truth)), of_default(("color", True, ("number", truth))))
            self.bad(of_declaration(("va", ("number", truth), False)))
            self.bad(replaced(SHEET, (1, 0, 0, 0, 0, 0, 3), truth), replaced(SHEET, (1, 0, 0, 0, 0, 0, 4), truth))

    def test_integers_for_truth_values(self):
        for other in (0, 1, None, "True", ()):
            self.bad(of_default(("color", other, ("word", "red"))))
            self.bad(of_declaration(("color", ("word", "red"), other)))

    def test_declarations(self):
        self.bad(*[
            of_declaration(declaration)
            for declaration in (
                (), ("color",), ("color", ("word", "red")), ("color", ("word", "red"), False, False),
                (("word", "red"), "color", False), (None, ("word", "red"), False), ("", ("word", "red"), False),
                ("Color", ("word", "red"), False), (LONGEST + "m", ("word", "red"), False),
                ("v" + LONGEST, ("word", "red"), False), ("v1", ("word", "red"), False), (b"v", ("word", "red"), False),
                (("color",), ("word", "red"), False), (["va"], ("word", "red"), False),
                "color", None,
            )
        ])

    def test_a_property_without_a_default(self):
        for name in ("height", "colors", "colo", "a", "av", "inherit"):
            self.bad(of_declaration((name, ("word", "red"), False)))
        self.bad(((), (((ANY,), (RED,)),)))
        self.bad(((WIDTH,), (((ANY,), (RED,)),)))
        self.bad((SHEET[0], (*SHEET[1], ((ANY,), (("va", ("inherit",), False), ("size", ("inherit",), False))))))

    def test_defaults(self):
        self.bad(*[
            of_default(default)
            for default in (
                (), ("color",), ("color", True), ("color", True, ("word", "red"), True), ("color", ("word", "red"), True),
                (None, True, ("word", "red")), ("", True, ("word", "red")), ("Color", True, ("word", "red")),
                (LONGEST + "m", True, ("word", "red")), (3, True, ("word", "red")), (["a"], True, ("word", "red")),
                "abc", None,
            )
        ])

    def test_a_default_that_is_a_variable(self):
        for name in ("v", "va", "vcolor"):
            self.bad(of_default((name, True, ("word", "red"))), of_default((name, False, ("number", 1))))

    def test_a_default_that_is_no_word_and_no_number(self):
        for value in (("inherit",), ("initial",), ("use", "va"), ("use", "color"), ("word", "Red"), ("red",), None, "red"):
            self.bad(of_default(("color", True, value)))

    def test_defaults_out_of_order_or_twice(self):
        self.bad(((WIDTH, COLOR), ()), ((COLOR, COLOR), ()), ((COLOR, ("color", False, ("number", 1))), ()))
        self.bad((named(10)[::-1], ()), ((*named(3), named(3)[1]), ()), ((*named(9), named(9)[8]), ()))
        self.bad(((COLOR, WIDTH, COLOR), SHEET[1]))

    def test_defaults_whose_properties_cannot_be_compared(self):
        self.bad(((COLOR, (3, True, ("word", "red"))), ()), (((None, True, ("word", "red")), COLOR), ()))

    def test_too_many_defaults(self):
        self.bad((named(11), ()), (named(12), ()))

    def test_too_many_rules(self):
        rule = ((ANY,), ())
        self.bad(((), (rule,) * 21), ((), (rule,) * 50), (SHEET[0], SHEET[1] * 11))

    def test_too_many_declarations(self):
        self.bad(of_rule(((ANY,), (RED,) * 9)), of_rule(((ANY,), (RED,) * 40)))

    def test_too_many_selectors(self):
        self.bad(of_rule(((ANY,) * 7, ())), of_rule(((ANY,) * 7, (RED,))))

    def test_no_selector(self):
        self.bad(of_rule(((), (RED,))), of_rule(((), ())))
        self.bad((SHEET[0], (*SHEET[1], ((), (RED,)))))

    def test_rules(self):
        self.bad(*[of_rule(rule) for rule in ((), ((ANY,),), ((ANY,), (RED,), ()), (ANY, (RED,)), ((ANY,), RED))])
        self.bad(of_rule(((RED,), (ANY,))), of_rule((None, (RED,))), of_rule(((ANY,), None)), of_rule("ab"))

    def test_wrong_selectors(self):
        # An error of another module does not get out.
        self.assertFalse(issubclass(BadSelector, BadSheet))
        part = (None, (), (), 1, 0)
        for selector in (
            (), ((), ()), ((part,), ("child",)), ((part, part), ()), ((part,) * 6, ("child",) * 5), ((part, part), ("in",)),
            ((("A", (), (), 1, 0),), ()), (((None, ("y", "x"), (), 1, 0),), ()), (((None, (), (), 7, 0),), ()),
            (((None, (), (("kind", "b"), ("kind", "a")), 1, 0),), ()), None, "a",
        ):
            self.bad(of_rule(((selector,), ())), of_rule(((ANY, selector), (RED,))))

    def test_a_fault_in_the_last_rule(self):
        for rule in (((), ()), ((ANY,), (("size", ("inherit",), True),)), ((ANY,), [RED]), ((ANY,), (RED,) * 9)):
            self.bad((SHEET[0], (*(SHEET[1][:1] * 19), rule)))

    def test_drawn_sheets_with_one_change(self):
        for seed in range(60):
            draw = random.Random(seed)
            sheet = drawn.sheet(draw, 3, 2, 2)
            self.assertIs(check_sheet(sheet), sheet)
            for path in draw.sample(tuples(sheet), 12):
                with self.assertRaises(BadSheet):
                    check_sheet(replaced(sheet, path, list(at(sheet, path))))
                with self.assertRaises(BadSheet):
                    check_sheet(replaced(sheet, path, draw.choice((None, True, 1, "a", ("a", "b", "c", "d", "e", "f")))))


if __name__ == "__main__":
    unittest.main()
