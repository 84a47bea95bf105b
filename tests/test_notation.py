"""Points 204 and 205: the text of lists of selectors."""

import copy
import itertools
import random
import unittest

import drawn
from treegarb.errors import BadSelector
from treegarb.notation import parse_selectors, selectors_text
from treegarb.selectors import check_list

LINKS = ("child", "inside", "next", "after")
LONGEST = "abcdefghijkl"


def part(kind=None, marks=(), nots=(), step=1, first=0):
    return (kind, marks, nots, step, first)


def alone(*fields, **more):
    return ((part(*fields, **more),), ())


def linked(*words):
    return (tuple(part(kind) for kind in words[::2]), words[1::2])


# Lists of selectors with their texts.
TEXTS = [
    ((), ""),
    ((alone("a"),), "a"),
    ((alone(LONGEST),), LONGEST),
    ((alone(),), "*"),
    ((alone("a", ("x",)),), "a.x"),
    ((alone("a", ("x", "y", "zz")),), "a.x.y.zz"),
    ((alone(None, ("x",)),), "*.x"),
    ((alone("a", (), (("kind", "b"),)),), "a!b"),
    ((alone(None, (), (("mark", "x"),)),), "*!.x"),
    ((alone(None, (), (("kind", "b"), ("kind", "c"), ("mark", "a"))),), "*!b!c!.a"),
    ((alone("a", ("x",), (("kind", "z"), ("mark", "a"), ("mark", "b"))),), "a.x!z!.a!.b"),
    ((alone("a", step=0, first=2),), "a:0+2"),
    ((alone(step=2, first=1),), "*:2+1"),
    ((alone(step=0, first=0),), "*:0+0"),
    ((alone(step=1, first=1),), "*:1+1"),
    ((alone(step=6, first=6),), "*:6+6"),
    ((alone(step=2, first=0),), "*:2+0"),
    ((alone("a", ("x",), (("kind", "b"), ("mark", "y")), 3, 2),), "a.x!b!.y:3+2"),
    ((linked("a", "child", "b"),), "a > b"),
    ((linked("a", "inside", "b"),), "a b"),
    ((linked("a", "next", "b"),), "a + b"),
    ((linked("a", "after", "b"),), "a ~ b"),
    ((linked("a", "child", "b", "inside", None, "next", "c", "after", "d"),), "a > b * + c ~ d"),
    ((((part("a", (), (), 2, 1), part(None, ("x",), (), 3, 0)), ("next",)),), "a:2+1 + *.x:3+0"),
    ((alone("a"), alone("b")), "a, b"),
    ((alone("a"), alone("a")), "a, a"),
    ((linked("a", "child", "b"), alone(), linked("c", "inside", "d")), "a > b, *, c d"),
    ((alone("a"), alone("b"), alone("c"), alone("d"), alone("e"), alone("f")), "a, b, c, d, e, f"),
    ((alone("kind"), alone("mark", ("child",))), "kind, mark.child"),
]

# Texts of no list of selectors.
WRONG = {
    "a doubled space": ["a  b", "a >  b", "a  > b", "a,  b", "a   b", "a ~  b"],
    "a missing space": ["a>b", "a >b", "a> b", "a+b", "a +b", "a~ b", "a~b", "a!b!.x:2+1> c", "a*", "**", "a.x*"],
    "a space at an end": [" a", "a ", " a b", "a > b ", " ", "  ", "a, b ", " a, b", "a:2+1 "],
    "other blanks": ["a\tb", "a\nb", "a\n", "\na", "a\u00a0b", "a >\nb", "a,\nb", "a\r"],
    "a comma without a space": ["a,b", "a,b, c", "a ,b", "a , b", "a,", ",a", ",", ", ", "a, ", ", a", "a,, b"],
    "the pair that is not written": ["*:1+0", "a:1+0", "a.x!b:1+0", "a > *:1+0 > b"],
    "zeros and signs in a pair": [
        "*:02+1", "*:2+01", "*:00+2", "*:+2+1", "*:2++1", "*:-2+1", "*:2+-1", "*:2-1", "*:2+ 1", "*: 2+1", "*:1+00",
    ],
    "a step or a first above 6": ["*:7+0", "*:0+7", "*:9+1", "*:10+1", "*:1+10", "*:6+66", "a:8+8"],
    "no pair": [
        "*:", "*:2", "*:2+", "*:+1", "*:+", "*:2+1+0", "*:2+1:2+1", "*::2+1", "*:a+b", "*:2+1n", "*:2*1", "*:211",
    ],
    "the pair elsewhere": ["a:2+1.x", "a:2+1!b", ":2+1a", "a.x:2+1!b"],
    "marks out of order or twice": ["a.y.x", "a.x.x", "a.x.y.x", "*.b.a", "a.xx.x"],
    "tests out of order or twice": [
        "a!c!b", "a!b!b", "a!.y!.x", "a!.x!.x", "a!.x!b", "a!.a!b", "*!b!.x!c", "*!b!c!b", "*!.x!.y!.x",
    ],
    "marks behind tests": ["a!b.x", "a!.y.x", "*!b.x!.y"],
    "four marks or tests": ["a.b.c.d.e", "*.a.b.c.d", "a!b!c!d!e", "a!.b!.c!.d!.e", "*!a!b!.c!.d"],
    "six parts": ["a b c d e f", "a > b > c > d > e > f", "a, b c + d ~ e * f"],
    "seven selectors": ["a, b, c, d, e, f, g", ", ".join(["*"] * 7), ", ".join(["a"] * 40)],
    "a name of 13 letters": [LONGEST + "m", "a." + LONGEST + "m", "a!" + LONGEST + "m", "a!." + LONGEST + "m"],
    "capital letters": ["A", "aB", "a.X", "a!B", "a!.X", "a > B", "Kind"],
    "digits in names": ["a1", "1", "a.x1", "a!2", "a!.x2", "a b2", "0"],
    "an empty part": ["a > > b", "> a", "a >", ">", "a > ", "+ a", "a ~", "a, > b", "a + ~ b", "a, , b", "~", "+"],
    "no kind": [".x", ".x.y", "a > .x", ".x ~ *", "a, .x", "!a", "!.x", ":2+1", "a > !b", "a, :2+1", "!a.x"],
    "an empty name": ["a.", "a..x", "*.", "a!", "a!.", "a!!b", "a!..x", "*.x.", ".", "..x", "!", "a.:2+1", "a!:2+1"],
    "beyond ASCII": [
        "\u00e4", "a.\u00df", "a!\u00e9", "a!.\u0430", "\u0430", "a\u0301", "\uff41",
        "*:\u0662+1", "*:2+\u0661", "*:\u00b2+1", "a\uff0cb", "a \uff0b b",
    ],
    "other characters": [
        "a#b", "a-b", "a_b", "a.x-y", "a[b]", "(a)", "a;b", "a/b", "a'", "*!*", "a!*", "*.*", "a\\", "a\0",
    ],
    "other texts": ["None", "a > b > ", "a:n", "not(a)", "*a", "a.x a.", "a & b", "a, b c > d e +"],
}


class Texts(unittest.TestCase):
    def test_written(self):
        for selectors, text in TEXTS:
            with self.subTest(text=text):
                self.assertEqual(selectors_text(check_list(selectors)), text)

    def test_read(self):
        for selectors, text in TEXTS:
            with self.subTest(text=text):
                self.assertEqual(parse_selectors(text), selectors)

    def test_every_pair(self):
        for step, first in itertools.product(range(7), range(7)):
            if (step, first) != (1, 0):
                selectors = (alone("a", step=step, first=first),)
                self.assertEqual(selectors_text(selectors), f"a:{step}+{first}")
                self.assertEqual(parse_selectors(f"a:{step}+{first}"), selectors)

    def test_every_link_after_every_link(self):
        between = {"child": " > ", "inside": " ", "next": " + ", "after": " ~ "}
        for one, other in itertools.product(LINKS, LINKS):
            text = "a" + between[one] + "*" + between[other] + "b.x"
            selectors = (((part("a"), part(), part("b", ("x",))), (one, other)),)
            self.assertEqual(selectors_text(selectors), text)
            self.assertEqual(parse_selectors(text), selectors)

    def test_there_and_back(self):
        every_pair = tuple(itertools.product(range(7), range(7)))
        for seed in range(600):
            draw = random.Random(seed)
            how = {"kinds": ("a", "bb", "kind", LONGEST), "marks": ("mark", "x", "xx", "y"), "pairs": every_pair}
            selectors = drawn.selectors(draw, most=6, longest=5, plain=draw.choice((0.2, 0.5, 0.8)), **how)
            check_list(selectors)
            self.assertEqual(parse_selectors(selectors_text(selectors)), selectors)

    def test_what_is_read_is_a_list_of_selectors(self):
        for _, text in TEXTS:
            found = parse_selectors(text)
            self.assertIs(check_list(found), found)

    def test_the_arguments_stay_as_they_were(self):
        for selectors, _ in TEXTS:
            before = copy.deepcopy(selectors)
            selectors_text(selectors)
            self.assertEqual(selectors, before)

    def test_lists_beyond_the_bounds_have_a_text(self):
        self.assertEqual(selectors_text((alone("a"),) * 7), "a, a, a, a, a, a, a")
        self.assertEqual(selectors_text((alone(step=12, first=10),)), "*:12+10")
        self.assertEqual(selectors_text((linked(*["a", "next"] * 5, "b"),)), "a + a + a + a + a + b")


class NoTexts(unittest.TestCase):
    def test_wrong_texts(self):
        for why, texts in WRONG.items():
            for text in texts:
                with self.subTest(why=why, text=text):
                    with self.assertRaises(BadSelector):
                        parse_selectors(text)

    def test_wrong_texts_beside_good_ones(self):
        for texts in WRONG.values():
            for text in texts:
                for whole in (text + ", a", "a, " + text, "a > " + text, text + " + b"):
                    with self.subTest(text=whole):
                        try:
                            found = parse_selectors(whole)
                        except BadSelector:
                            continue
                        # A sign at an end, with what was put beside it, may be good.
                        self.assertEqual(selectors_text(found), whole)

    def test_values_that_are_not_strings(self):
        for value in (None, True, False, 0, 1, b"", b"a", ("a",), ["a"], [], (), {}, {"a": 1}, (alone("a"),), object()):
            with self.subTest(value=value):
                with self.assertRaises(BadSelector):
                    parse_selectors(value)

    def test_one_character_changed(self):
        # Whatever is read is spelled exactly as it would be written.
        signs = " ,.!:+>~*ab012"
        for _, text in TEXTS:
            changed = [text[:at] + sign + text[at + 1:] for at in range(len(text)) for sign in signs]
            changed.extend([text[:at] + sign + text[at:] for at in range(len(text) + 1) for sign in signs])
            changed.extend([text[:at] + text[at + 1:] for at in range(len(text))])
            for other in changed:
                try:
                    found = parse_selectors(other)
                except BadSelector:
                    continue
                self.assertEqual(selectors_text(found), other)


class NoStar(unittest.TestCase):
    """A part without a kind has a text that begins with `*` (point 204)."""

    def test_a_part_without_its_star(self):
        for text in (
            ".x", ".x.y", ".x!b", ".x!.y", ".x:2+1", ".x.y!b!.z:2+1", "!b", "!.x", ":2+1",
            ".x, *, *, a, *", "*, *, .x, a", "a, b, .x", ".x, .y", "a, !b", ":0+1, a",
        ):
            with self.subTest(text=text):
                with self.assertRaises(BadSelector):
                    parse_selectors(text)

    def test_every_part_without_its_star(self):
        for text in ("*.x > *.y *.x + *.y ~ *.x", "*.x, *.y > a, b *.x", "*!a ~ *!.x, a + *:2+1", "*.x!b:0+3, *.x"):
            self.assertEqual(selectors_text(parse_selectors(text)), text)
            for at in [at for at, sign in enumerate(text) if sign == "*"]:
                shorter = text[:at] + text[at + 1:]
                with self.subTest(text=shorter):
                    with self.assertRaises(BadSelector):
                        parse_selectors(shorter)

    def test_the_example_of_matching_in_the_interface(self):
        # It has a part `.x`, which is the text of no part; `*.x` is what it means.
        with self.assertRaises(BadSelector):
            parse_selectors("a b, .x ~ *")
        after_x = ((part(None, ("x",)), part()), ("after",))
        self.assertEqual(parse_selectors("a b, *.x ~ *"), (linked("a", "inside", "b"), after_x))


if __name__ == "__main__":
    unittest.main()
