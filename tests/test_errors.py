"""The classes under the heading treegarb/errors.py."""

import unittest

from treegarb import errors
from treegarb.cascade import deciding, style_of
from treegarb.deciding import contained
from treegarb.documents import check_document, element_at
from treegarb.engine import Engine
from treegarb.matching import matches
from treegarb.notation import parse_selectors
from treegarb.selectors import check_list, check_selector
from treegarb.sheets import check_sheet

NAMES = ("BadDocument", "BadPlace", "BadSelector", "BadSheet", "TooMany")


class ErrorClasses(unittest.TestCase):
    def test_the_base_class_is_a_value_error(self):
        self.assertEqual(errors.StyleError.__bases__, (ValueError,))

    def test_each_class_is_a_direct_subclass_of_the_base_class(self):
        for name in NAMES:
            with self.subTest(name=name):
                self.assertEqual(getattr(errors, name).__bases__, (errors.StyleError,))

    def test_each_class_is_created_without_arguments(self):
        for name in ("StyleError", *NAMES):
            with self.subTest(name=name):
                error = getattr(errors, name)()
                self.assertEqual(error.args, ())
                self.assertEqual(str(error), "")

    def test_one_class_does_not_catch_the_errors_of_another(self):
        for name in NAMES:
            for other in NAMES:
                if name != other:
                    self.assertFalse(issubclass(getattr(errors, name), getattr(errors, other)))

    def test_the_functions_raise_them_without_arguments(self):
        calls = (
            (errors.BadDocument, lambda: check_document(None)),
            (errors.BadPlace, lambda: element_at(("a", (), ()), (0,))),
            (errors.BadSelector, lambda: check_selector(None)),
            (errors.BadSelector, lambda: check_list(None)),
            (errors.BadSelector, lambda: check_list((None,))),
            (errors.BadSelector, lambda: parse_selectors(None)),
            (errors.BadSelector, lambda: parse_selectors(".x")),
            (errors.BadPlace, lambda: matches(("a", (), ()), (0,), parse_selectors("a")[0])),
            (errors.TooMany, lambda: contained(parse_selectors("*.a *.b *.c *.d *.e"), ())),
            (errors.BadSheet, lambda: check_sheet(None)),
            (errors.BadSheet, lambda: check_sheet(((), ((None, ()),)))),
            (errors.BadPlace, lambda: deciding(((), ()), ("a", (), ()), (0,), "color")),
            (errors.BadPlace, lambda: style_of(((), ()), ("a", (), ()), (0,))),
            (errors.BadPlace, lambda: Engine(((), ()), ("a", (), ())).apply(("remove", ()))),
            (errors.BadDocument, lambda: Engine(((), ()), ("a", (), ())).apply(("mark", (), ("A",)))),
        )
        for error, call in calls:
            with self.subTest(error=error.__name__):
                with self.assertRaises(errors.StyleError) as caught:
                    call()
                self.assertIs(caught.exception.__class__, error)
                self.assertEqual(caught.exception.args, ())


if __name__ == "__main__":
    unittest.main()
