"""Points 404 and 405: documents that change, with their styles."""

import copy
import itertools
import random
import unittest

import drawn
import plain
import plainstyles
from treegarb.cascade import styles
from treegarb.documents import check_document
from treegarb.engine import Engine
from treegarb.errors import BadDocument, BadPlace
from treegarb.notation import parse_selectors
from treegarb.sheets import check_sheet

RED = ("word", "red")
BLUE = ("word", "blue")
DEFAULTS = (("color", True, ("word", "black")), ("width", False, ("word", "auto")))

# A root with four children, of which the second one has two children and a grandchild.
TREE = (
    "a",
    (),
    (
        ("b", (), ()),
        ("b", ("x",), (("c", (), (("d", (), ()),)), ("c", (), ()))),
        ("b", (), (("c", (), ()),)),
        ("e", (), ()),
    ),
)
LONE = ("n", (), ())
FAMILY = ("n", ("x",), (("o", (), (("p", (), ()),)), ("o", (), ())))

PLAIN = "*.x, a b, a > c"
NEXT = "*.x, b + *"
AFTER = "b.x ~ * > *"
PAIRED = "*.x, *:2+1"
LINKED_AND_PAIRED = "*.x + *:0+2"


def sheet(*texts):
    """A sheet whose rules have these texts."""
    declared = (("color", RED, False), ("width", ("use", "va"), False), ("va", BLUE, True))
    return check_sheet((DEFAULTS, tuple((parse_selectors(text), declared) for text in texts)))


def row_of(length, kind="b"):
    return ("a", (), tuple((kind, (), ()) for _ in range(length)))


def deep(levels):
    found = ("d", (), ())
    for _ in range(levels - 1):
        found = ("d", (), (found,))
    return found


class Checked(unittest.TestCase):
    def check(self, one, kept):
        """The engine has the styles that are computed from nothing."""
        self.assertEqual(kept.styles(), styles(one, kept.document()))
        self.assertEqual(kept.styles(), plainstyles.styles(one, kept.document()))

    def apply(self, one, kept, change):
        """Perform a change, and check all that points 404 and 405 say of it."""
        before = kept.document()
        expected = len(plainstyles.affected(one, before, change))
        found = kept.apply(change)
        self.assertEqual(kept.document(), plainstyles.changed(before, change))
        self.assertEqual(found, expected)
        self.assertIs(found.__class__, int)
        self.check(one, kept)
        return found

    def count(self, change, *texts, tree=TREE):
        one = sheet(*texts)
        return self.apply(one, Engine(one, tree), change)

    def refused(self, one, tree, error, *changes):
        kept = Engine(one, tree)
        before = kept.styles()
        for change in changes:
            with self.subTest(change=change):
                with self.assertRaises(error) as caught:
                    kept.apply(change)
                self.assertIs(caught.exception.__class__, error)
                self.assertEqual(kept.document(), tree)
                self.assertEqual(kept.styles(), before)
        # An error leaves nothing behind that a later change would show.
        self.apply(one, kept, ("mark", (), ("y",)))


class Kept(Checked):
    def test_without_changes(self):
        for texts in ((), (PLAIN,), (NEXT, PAIRED)):
            one = sheet(*texts)
            for tree in (TREE, LONE, FAMILY, row_of(199), deep(20)):
                kept = Engine(one, tree)
                self.assertEqual(kept.document(), tree)
                self.assertEqual(kept.styles(), styles(one, tree))

    def test_the_kinds_of_what_is_returned(self):
        kept = Engine(sheet(PLAIN), TREE)
        self.assertIs(kept.styles().__class__, list)
        self.assertIs(kept.document(), check_document(kept.document()))
        self.assertEqual(len(kept.styles()), 9)

    def test_a_list_that_was_returned_is_not_kept(self):
        kept = Engine(sheet(PLAIN), TREE)
        found = kept.styles()
        before = list(found)
        kept.apply(("mark", (), ("x",)))
        self.assertEqual(found, before)
        found.clear()
        self.assertEqual(len(kept.styles()), 9)

    def test_two_engines_do_not_share_anything(self):
        one = sheet(PLAIN, NEXT)
        first, second = Engine(one, TREE), Engine(one, TREE)
        self.apply(one, first, ("remove", (1,)))
        self.assertEqual(second.document(), TREE)
        self.check(one, second)
        self.apply(one, second, ("insert", (), 0, FAMILY))
        self.check(one, first)

    def test_the_arguments_stay_as_they_were(self):
        one = sheet(PLAIN, NEXT)
        changes = [("mark", (0,), ("x",)), ("insert", (1,), 1, FAMILY), ("remove", (1, 1, 0)), ("remove", (0,))]
        before = copy.deepcopy((one, TREE, changes))
        kept = Engine(one, TREE)
        for change in changes:
            kept.apply(change)
        self.assertEqual((one, TREE, changes), before)


class Numbers(Checked):
    """The numbers of the affected elements, counted by hand."""

    def test_mark_without_links_to_siblings(self):
        for texts in ((), (PLAIN,), (PAIRED,), ("a > *", "*:3+1 *")):
            self.assertEqual(self.count(("mark", (), ("x",)), *texts), 9)
            self.assertEqual(self.count(("mark", (0,), ("x",)), *texts), 1)
            self.assertEqual(self.count(("mark", (1,), ("y",)), *texts), 4)
            self.assertEqual(self.count(("mark", (1, 0), ("x",)), *texts), 2)
            self.assertEqual(self.count(("mark", (3,), ("x",)), *texts), 1)

    def test_mark_with_links_to_siblings(self):
        for texts in ((NEXT,), (AFTER,), (LINKED_AND_PAIRED,), (PLAIN, AFTER), (NEXT, AFTER, PAIRED)):
            self.assertEqual(self.count(("mark", (), ("x",)), *texts), 9)
            self.assertEqual(self.count(("mark", (0,), ("x",)), *texts), 8)
            self.assertEqual(self.count(("mark", (1,), ("y",)), *texts), 7)
            self.assertEqual(self.count(("mark", (1, 0), ("x",)), *texts), 3)
            self.assertEqual(self.count(("mark", (1, 0, 0), ("x",)), *texts), 1)
            self.assertEqual(self.count(("mark", (3,), ("x",)), *texts), 1)

    def test_insert_without_a_say_of_siblings(self):
        for texts in ((), (PLAIN,), ("a > * b",)):
            self.assertEqual(self.count(("insert", (), 0, LONE), *texts), 1)
            self.assertEqual(self.count(("insert", (), 2, FAMILY), *texts), 4)
            self.assertEqual(self.count(("insert", (), 4, FAMILY), *texts), 4)
            self.assertEqual(self.count(("insert", (1, 0, 0), 0, LONE), *texts), 1)

    def test_insert_with_a_say_of_siblings(self):
        for texts in ((NEXT,), (AFTER,), (PAIRED,), (LINKED_AND_PAIRED,), (PLAIN, "*:0+6"), ("*:1+1",), ("*:0+0 a",)):
            self.assertEqual(self.count(("insert", (), 0, LONE), *texts), 9)
            self.assertEqual(self.count(("insert", (), 1, FAMILY), *texts), 11)
            self.assertEqual(self.count(("insert", (), 3, FAMILY), *texts), 5)
            self.assertEqual(self.count(("insert", (), 4, FAMILY), *texts), 4)
            self.assertEqual(self.count(("insert", (1,), 0, LONE), *texts), 4)
            self.assertEqual(self.count(("insert", (0,), 0, FAMILY), *texts), 4)

    def test_remove_without_a_say_of_siblings(self):
        for texts in ((), (PLAIN,), ("a > * b",)):
            for place in plain.places(TREE)[1:]:
                self.assertEqual(self.count(("remove", place), *texts), 0)

    def test_remove_with_a_say_of_siblings(self):
        for texts in ((NEXT,), (AFTER,), (PAIRED,), (LINKED_AND_PAIRED,), (PLAIN, "*:0+6"), ("*:1+1",), ("*:0+0 a",)):
            self.assertEqual(self.count(("remove", (0,)), *texts), 7)
            self.assertEqual(self.count(("remove", (1,)), *texts), 3)
            self.assertEqual(self.count(("remove", (2,)), *texts), 1)
            self.assertEqual(self.count(("remove", (3,)), *texts), 0)
            self.assertEqual(self.count(("remove", (1, 0)), *texts), 1)
            self.assertEqual(self.count(("remove", (1, 1)), *texts), 0)

    def test_the_links_of_a_rule_without_declarations_count(self):
        for text, mark, insert in (("a ~ b", 8, 9), ("a + b", 8, 9), ("*:2+0", 1, 9), ("a b", 1, 1)):
            one = check_sheet((DEFAULTS, ((parse_selectors(text), ()),)))
            self.assertEqual(self.apply(one, Engine(one, TREE), ("mark", (0,), ("x",))), mark)
            self.assertEqual(self.apply(one, Engine(one, TREE), ("insert", (), 0, LONE)), insert)

    def test_a_change_that_leaves_the_document_as_it_was(self):
        for text, expected in ((PLAIN, 4), (PAIRED, 4), (NEXT, 7)):
            one = sheet(text)
            kept = Engine(one, TREE)
            for _ in range(3):
                self.assertEqual(self.apply(one, kept, ("mark", (1,), ("x",))), expected)
                self.assertEqual(kept.document(), TREE)

    def test_equal_siblings(self):
        # The document is the same one whichever of them goes, but the affected elements are not.
        one = sheet(PAIRED)
        for at in range(5):
            kept = Engine(one, row_of(5))
            self.assertEqual(self.apply(one, kept, ("remove", (at,))), 4 - at)
            self.assertEqual(self.apply(one, kept, ("insert", (), at, ("b", (), ()))), 5 - at)
            self.assertEqual(kept.document(), row_of(5))

    def test_back_and_forth(self):
        one = sheet(NEXT, PAIRED)
        kept = Engine(one, TREE)
        for place, index in (((), 0), ((), 2), ((1,), 2), ((1, 0, 0), 0)):
            self.assertEqual(
                self.apply(one, kept, ("insert", place, index, FAMILY)) - 4,
                self.apply(one, kept, ("remove", (*place, index))),
            )
            self.assertEqual(kept.document(), TREE)

    def test_the_root_alone(self):
        one = sheet(NEXT, PAIRED)
        kept = Engine(one, LONE)
        self.assertEqual(self.apply(one, kept, ("mark", (), ("x",))), 1)
        self.assertEqual(self.apply(one, kept, ("insert", (), 0, LONE)), 1)
        self.assertEqual(self.apply(one, kept, ("mark", (), ())), 2)
        self.assertEqual(self.apply(one, kept, ("remove", (0,))), 0)

    def test_exactly_the_affected_elements_are_computed(self):
        # Each look that is computed is a new object: the others are the ones from before.
        for seed in range(80):
            draw = random.Random(seed)
            one = drawn.sheet(draw, 4, plain=draw.choice((0.5, 0.9)), pairs=draw.choice((drawn.PAIRS, ((1, 0),))))
            kept = Engine(one, drawn.document(draw, 14))
            for _ in range(4):
                change = drawn.change(draw, kept.document())
                if change == ("remove", ()):
                    continue
                before = kept.document()
                looks = {id(branch.look): branch.look for branch in branches(kept)}
                kept.apply(change)
                fresh = [
                    place
                    for place, branch in zip(plain.places(kept.document()), branches(kept))
                    if id(branch.look) not in looks
                ]
                self.assertEqual(fresh, plainstyles.affected(one, before, change))


def branches(kept):
    """What the engine keeps of each element, in the order of places."""
    found = []

    def add(branch):
        found.append(branch)
        for child in branch.children:
            add(child)

    add(kept._ground.children[0])
    return found


class Changes(Checked):
    def test_a_mark_that_matters_for_other_elements(self):
        for text in ("*.y *", "*.y > *", "*.y + *", "*.y ~ *", "*.y + * *", "*.y ~ * > *", "*!.y ~ * *"):
            one = sheet(text)
            for place in plain.places(TREE):
                kept = Engine(one, TREE)
                self.apply(one, kept, ("mark", place, ("y",)))
                self.apply(one, kept, ("mark", place, ()))

    def test_an_order_that_matters_for_other_elements(self):
        for text in ("*:0+2", "*:2+1 *", "*:0+1 > *", "n + *", "n ~ * *", "b + b", "*:0+2 ~ c", "*:0+3 + * c"):
            one = sheet(text)
            for place, size in (((), 4), ((1,), 2), ((2,), 1), ((0,), 0)):
                for index in range(size + 1):
                    kept = Engine(one, TREE)
                    self.apply(one, kept, ("insert", place, index, FAMILY))
                    for gone in range(size + 1):
                        again = Engine(one, kept.document())
                        self.apply(one, again, ("remove", (*place, gone)))

    def test_inherited_values_below_a_change(self):
        one = check_sheet(
            (DEFAULTS, ((parse_selectors("*.y"), (("color", RED, False), ("va", BLUE, False))),
                        (parse_selectors("d, p"), (("width", ("use", "va"), False),))))
        )
        kept = Engine(one, TREE)
        self.apply(one, kept, ("mark", (1,), ("y",)))
        self.assertEqual(dict(kept.styles()[4]), {"color": RED, "width": BLUE})
        self.apply(one, kept, ("insert", (1, 0), 0, FAMILY))
        self.apply(one, kept, ("mark", (1,), ()))
        self.apply(one, kept, ("mark", (), ("y", "z")))

    def test_marks_come_into_the_document(self):
        kept = Engine(sheet(PLAIN), TREE)
        kept.apply(("mark", (1, 0, 0), ("a", "b", "c", "d", "e", "f")))
        self.assertEqual(kept.document()[2][1][2][0][2][0], ("d", ("a", "b", "c", "d", "e", "f"), ()))
        kept.apply(("mark", (1,), ()))
        self.assertEqual(kept.document()[2][1][:2], ("b", ()))

    def test_elements_come_into_the_document_at_their_index(self):
        for index in range(5):
            kept = Engine(sheet(PLAIN), TREE)
            kept.apply(("insert", (), index, FAMILY))
            self.assertEqual(kept.document()[2], (*TREE[2][:index], FAMILY, *TREE[2][index:]))

    def test_changes_of_what_was_inserted(self):
        one = sheet(NEXT, PAIRED)
        kept = Engine(one, TREE)
        self.apply(one, kept, ("insert", (0,), 0, FAMILY))
        self.apply(one, kept, ("mark", (0, 0, 0), ("x",)))
        self.apply(one, kept, ("insert", (0, 0, 0, 0), 0, FAMILY))
        self.apply(one, kept, ("remove", (0, 0, 0)))
        self.apply(one, kept, ("remove", (0, 0)))
        self.assertEqual(kept.document(), TREE)

    def test_the_same_element_inserted_twice(self):
        one = sheet(PLAIN, AFTER)
        kept = Engine(one, TREE)
        self.apply(one, kept, ("insert", (), 0, FAMILY))
        self.apply(one, kept, ("insert", (3,), 0, FAMILY))
        self.apply(one, kept, ("mark", (0, 0), ("x",)))
        self.assertEqual(kept.document()[2][3][2][0], FAMILY)
        self.apply(one, kept, ("insert", (), 0, TREE))

    def test_stale_siblings(self):
        # A mark does not recompute the later siblings here, but their turn comes.
        one = sheet("*.x", "*.x *", "*:2+0")
        kept = Engine(one, row_of(6))
        self.apply(one, kept, ("mark", (1,), ("x",)))
        self.apply(one, kept, ("insert", (), 3, FAMILY))
        self.apply(one, kept, ("mark", (), ("x",)))
        self.apply(one, kept, ("remove", (0,)))

    def test_drawn_changes(self):
        seen = set()
        for seed in range(120):
            draw = random.Random(seed)
            how = {"plain": draw.choice((0.5, 0.7, 0.9)), "pairs": draw.choice((drawn.PAIRS, ((1, 0),)))}
            one = check_sheet(drawn.sheet(draw, draw.randint(0, 8), 2, draw.choice((1, 2, 3)), **how))
            kept = Engine(one, drawn.document(draw, draw.randint(1, 10)))
            for _ in range(12):
                change = drawn.change(draw, kept.document())
                if change == ("remove", ()):
                    with self.assertRaises(BadPlace):
                        kept.apply(change)
                    self.check(one, kept)
                else:
                    seen.add((change[0], min(self.apply(one, kept, change), 3)))
        expected = set(itertools.product(("mark", "insert", "remove"), (0, 1, 2, 3)))
        self.assertEqual(seen, expected - {("mark", 0), ("insert", 0)})

    def test_many_changes_of_a_great_document(self):
        draw = random.Random(1)
        one = check_sheet(drawn.sheet(draw, 20, 6, 4, declared=8, plain=0.8))
        kept = Engine(one, drawn.document(draw, 180))
        refusals = 0
        for _ in range(150):
            before = kept.document()
            change = drawn.change(draw, before, size=30)
            try:
                found = kept.apply(change)
            except (BadPlace, BadDocument):
                refusals += 1
                self.assertEqual(kept.document(), before)
            else:
                self.assertEqual(found, len(plainstyles.affected(one, before, change)))
            self.assertEqual(kept.styles(), styles(one, kept.document()))
        self.assertGreater(refusals, 0)
        self.assertLess(refusals, 100)


class BadPlaces(Checked):
    MISSING = ((4,), (0, 0), (1, 2), (1, 0, 1), (1, 0, 0, 0), (3, 0), (-1,), (1, -1), (7, 7, 7))

    def test_a_place_that_does_not_exist(self):
        for text in (PLAIN, NEXT, PAIRED):
            self.refused(sheet(text), TREE, BadPlace, *[("mark", place, ("x",)) for place in self.MISSING])
            self.refused(sheet(text), TREE, BadPlace, *[("insert", place, 0, LONE) for place in self.MISSING])
            self.refused(sheet(text), TREE, BadPlace, *[("remove", place) for place in self.MISSING])

    def test_an_index_beyond_the_children(self):
        for place, size in (((), 4), ((0,), 0), ((1,), 2), ((1, 0, 0), 0)):
            for index in (-1, -2, size + 1, size + 2, 100):
                self.refused(sheet(NEXT), TREE, BadPlace, ("insert", place, index, FAMILY))
            for index in (0, size):
                one = sheet(NEXT)
                self.apply(one, Engine(one, TREE), ("insert", place, index, FAMILY))

    def test_the_root_is_not_removed(self):
        for tree in (TREE, LONE):
            self.refused(sheet(PAIRED), tree, BadPlace, ("remove", ()))

    def test_a_bad_place_comes_before_a_bad_document(self):
        self.refused(
            sheet(PLAIN), TREE, BadPlace,
            ("mark", (9,), ("y", "x")), ("insert", (9,), 0, None), ("insert", (), 5, None), ("insert", (), -1, ("A", (), ())),
        )

    def test_a_place_that_was_removed(self):
        one = sheet(PLAIN)
        kept = Engine(one, TREE)
        self.apply(one, kept, ("remove", (3,)))
        for change in (("remove", (3,)), ("mark", (3,), ()), ("insert", (3,), 0, LONE), ("insert", (), 4, LONE)):
            with self.assertRaises(BadPlace):
                kept.apply(change)
            self.check(one, kept)


class BadDocuments(Checked):
    def test_marks_that_are_none(self):
        for marks in (
            ("y", "x"), ("x", "x"), ("a", "b", "c", "d", "e", "f", "g"), ("X",), ("",), ("abcdefghijklm",), (1,), (None,),
            ["x"], "x", None, 3, {"x": 1}, ("x", 1), (("x",),),
        ):
            for place in ((), (1,), (1, 0, 0)):
                self.refused(sheet(NEXT), TREE, BadDocument, ("mark", place, marks))

    def test_elements_that_are_none(self):
        for element in (
            None, "n", (), ("n",), ("n", ()), ("n", (), (), ()), ["n", (), ()], ("N", (), ()), (None, (), ()),
            ("n", ("y", "x"), ()), ("n", ["x"], ()), ("n", (), []), ("n", (), (None,)), ("n", (), (("o", (), ()), "o")),
            ("n", (), (("o", ("x", "x"), ()),)), ("n", (), ("ab", "cd")), ("n", (), ("abc",)), 3, True,
        ):
            for place in ((), (0,), (1, 0)):
                self.refused(sheet(NEXT), TREE, BadDocument, ("insert", place, 0, element))

    def test_too_many_elements(self):
        one = sheet(PLAIN)
        kept = Engine(one, row_of(198))
        self.refused(one, row_of(198), BadDocument, ("insert", (), 0, ("n", (), (LONE,))), ("insert", (3,), 0, row_of(199)))
        self.apply(one, kept, ("insert", (), 0, LONE))
        for change in (("insert", (), 199, LONE), ("insert", (0,), 0, LONE)):
            with self.assertRaises(BadDocument):
                kept.apply(change)
        self.check(one, kept)
        self.apply(one, kept, ("mark", (), ("x",)))
        self.apply(one, kept, ("remove", (0,)))

    def test_too_many_levels(self):
        one = sheet(PLAIN)
        self.refused(one, deep(20), BadDocument, ("insert", (0,) * 19, 0, LONE), ("insert", (0,) * 18, 0, deep(2)))
        self.refused(one, LONE, BadDocument, ("insert", (), 0, deep(20)))
        kept = Engine(one, LONE)
        self.apply(one, kept, ("insert", (), 0, deep(19)))
        self.apply(one, kept, ("insert", (0,) * 18, 0, LONE))
        with self.assertRaises(BadDocument):
            kept.apply(("insert", (0,) * 19, 0, LONE))
        self.check(one, kept)

    def test_a_document_beyond_the_bounds_can_be_kept(self):
        # It is a result that has to be a document.
        one = sheet(PLAIN, NEXT)
        kept = Engine(one, row_of(201))
        self.assertEqual(kept.styles(), styles(one, row_of(201)))
        with self.assertRaises(BadDocument):
            kept.apply(("mark", (0,), ("x",)))
        with self.assertRaises(BadDocument):
            kept.apply(("remove", (0,)))
        self.assertEqual(kept.document(), row_of(201))
        kept = Engine(one, row_of(200))
        self.apply(one, kept, ("remove", (0,)))


if __name__ == "__main__":
    unittest.main()
