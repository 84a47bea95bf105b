"""Points 2, 305 and 306: containment on all documents, and the check of its tables."""

import copy
import random
import unittest

import drawn
import plain
from treegarb.deciding import accepts, contained
from treegarb.errors import TooMany
from treegarb.matching import matches, matching
from treegarb.notation import parse_selectors, selectors_text
from treegarb.walks import is_bad, letters, next_state, start_state, walk_document

NO = ((False,),) * 5

# Lists of selectors, the first of which is contained in the second.
CONTAINED = [
    ("", ""),
    ("", "a"),
    ("", "*"),
    ("a", "*"),
    ("a", "a"),
    ("a.x", "a"),
    ("a.x", "*.x"),
    ("a.x.y", "a.y"),
    ("a", "b, a"),
    ("a, b", "b, a"),
    ("a", "*!b"),
    ("*!a", "*!a!.x, *.x"),
    ("a > b", "a b"),
    ("a + b", "a ~ b"),
    ("a > b", "b"),
    ("a b *", "a *"),
    ("* a *", "a *"),
    ("a > * > *", "a *"),
    ("* + * + a", "* ~ a"),
    ("a ~ a > *", "a *"),
    ("a > b > *", "b *"),
    ("* * *", "* *"),
    ("* > * > *", "* * *"),
    ("* * *", "* > * > *"),
    ("* ~ * ~ *", "* + * + *"),
    ("a", "a!b"),
    ("a!a", ""),
    ("a!a", "b"),
    ("*.x!.x", ""),
    ("*:0+0", ""),
    ("*:0+0 > a", ""),
    ("* > *:0+1 + *", "*:0+2"),
    ("*:0+2", "*:2+0"),
    ("*:0+2", "* + *"),
    ("*:4+0", "*:2+0"),
    ("*:6+1", "*:2+1, *:3+1"),
    ("*:1+1", "*"),
    ("*", "*:1+1"),
    ("* > *:0+3", "* + * + *"),
    ("* > a", "* a:1+1, a"),
    ("*", "a, *!a"),
    ("*", "*.x, *!.x"),
]

NOT_CONTAINED = [
    ("a", ""),
    ("*", ""),
    ("*", "a"),
    ("a", "b"),
    ("a", "a.x"),
    ("*.x", "a.x"),
    ("a, b", "a"),
    ("a b", "a > b"),
    ("a ~ b", "a + b"),
    ("a c", "a b c"),
    ("a", "* > a"),
    ("a", "a + a, a ~ a"),
    ("* *", "* * *"),
    ("*:2+0", "*:4+0"),
    ("*:2+1", "*:0+1"),
    ("*:2+0", "*:0+2"),
    ("* > *", "*:1+2"),
    ("*:1+2", "*:0+2, *:2+4"),
    ("a > b ~ c", "a > b + c"),
    ("*!a", "*.x"),
    ("* > a b", "a > b"),
]

# Pairs that contain the numbers only together.
TOGETHER = [
    ("*", ("*:2+0", "*:2+1")),
    ("*", ("*:3+0", "*:3+1", "*:3+2")),
    ("*:2+0", ("*:4+0", "*:4+2")),
    ("*:1+2", ("*:0+2", "*:0+3", "*:1+4")),
    ("*", ("*:0+1", "*:0+2", "*:2+3", "*:2+4")),
    ("a > b", ("a > b:2+0", "a b:2+1")),
    ("*:3+0", ("*:6+0", "*:6+3")),
    ("* > *", ("*:0+1", "*:0+2", "* + * + *")),
]


def read(first, second):
    return (parse_selectors(first), parse_selectors(second))


def small(seed):
    """Two small lists of selectors."""
    draw = random.Random(seed)
    how = {"kinds": "a", "marks": "x", "pairs": ((0, 1), (0, 2), (2, 0), (1, 2)), "plain": 0.7}
    return (drawn.selectors(draw, 2, 2, **how), drawn.selectors(draw, 2, 2, **how))


def contained_or_none(first, second):
    try:
        return contained(first, second)
    except TooMany:
        return None


def all_states(first, second):
    """All states that walks lead to, by the functions of point 304, in no special order."""
    row = letters(first, second)
    table = []
    waiting = [start_state(first, second, letter) for letter in row]
    known = set()
    while waiting:
        state = waiting.pop()
        if state in known:
            continue
        known.add(state)
        table.append(state)
        for move in ("down", "right") if state[0] == 1 else ("down",):
            waiting.extend([next_state(first, second, state, move, letter) for letter in row])
    return tuple(table)


def plainly_closed(first, second, table):
    """Point 306 for a tuple of states, by the functions of point 304."""
    row = letters(first, second)
    known = set(table)
    for letter in row:
        if start_state(first, second, letter) not in known:
            return False
    for state in table:
        for letter in row:
            for move in ("down", "right") if state[0] == 1 else ("down",):
                if next_state(first, second, state, move, letter) not in known:
                    return False
    return not any(is_bad(first, second, state) for state in table)


class Yes(unittest.TestCase):
    def test_contained_lists(self):
        for first, second in CONTAINED:
            with self.subTest(first=first, second=second):
                answer, table = contained(*read(first, second))
                self.assertEqual(answer, "yes")
                self.assertIs(accepts(*read(first, second), table), True)
                self.assertTrue(plainly_closed(*read(first, second), table))

    def test_two_empty_lists(self):
        self.assertEqual(contained((), ()), ("yes", ((0, 0, ()), (1, 0, ()))))

    def test_a_table_by_hand(self):
        yes, no = (True,), (False,)
        answer, table = contained(*read("a", "a"))
        self.assertEqual(answer, "yes")
        self.assertEqual(table[:2], ((0, 0, (NO, NO)), (0, 0, ((yes, no, no, no, no),) * 2)))
        # Whether the parent and an ancestor is an a, and the previous and an earlier sibling.
        back = [(no, no), (no, yes), (yes, yes)]
        rows = [(here, *over, *beside) for here in (no, yes) for over in back for beside in back]
        self.assertEqual(table[2:], tuple([(1, 0, (row, row)) for row in rows]))

    def test_a_table_with_counts(self):
        yes, no = (True,), (False,)
        answer, table = contained(*read("*:0+2", "*:2+0"))
        self.assertEqual(answer, "yes")
        self.assertEqual(table[0], (0, 1, (NO, NO)))
        # The children of the root: the second, then by turns an odd and an even one.
        children = [
            (1, 1, (NO, NO)),
            (1, 2, ((yes, no, no, no, no), (yes, no, no, no, no))),
            (1, 3, ((no, no, no, no, yes), (no, no, no, yes, yes))),
            (1, 3, ((no, no, no, yes, yes), (no, no, no, yes, yes))),
            (1, 4, ((no, no, no, no, yes), (yes, no, no, no, yes))),
        ]
        below_none = [state for state in table[1:] if state[2][0][2] == no and state[2][1][2] == no]
        self.assertEqual(below_none, children)

    def test_the_table_is_sorted_and_has_no_state_twice(self):
        for first, second in CONTAINED:
            table = contained(*read(first, second))[1]
            self.assertIs(type(table), tuple)
            self.assertEqual(list(table), sorted(set(table)))

    def test_the_values_of_the_table(self):
        table = contained(*read("* > a:2+0", "* a:1+1, a"))[1]
        for state in table:
            self.assertEqual([type(field) for field in state], [int, int, tuple])
            for row, length in zip(state[2], (2, 2, 1)):
                self.assertEqual([len(truths) for truths in row], [length] * 5)
                self.assertTrue(all(type(truth) is bool for truths in row for truth in truths))

    def test_all_states_and_no_others(self):
        for text in ("a, * > a", "a + *, *!a", "*:2+0 > a", "*:0+2 ~ a"):
            for first, second in ((text, text), ("", text)):
                with self.subTest(first=first, second=second):
                    self.assertEqual(contained(*read(first, second)), plain.contained(*read(first, second)))

    def test_lists_in_themselves(self):
        for text in ("a", "*", "a > b", "a b", "a + b", "a ~ b", "a.x!b:2+1", "a b ~ c", "a, *!a:0+3", "*:6+5"):
            with self.subTest(text=text):
                self.assertEqual(contained(*read(text, text))[0], "yes")

    def test_pairs_only_together(self):
        for first, several in TOGETHER:
            with self.subTest(first=first, second=several):
                self.assertEqual(contained(*read(first, ", ".join(several)))[0], "yes")
                for at in range(len(several)):
                    fewer = several[:at] + several[at + 1:]
                    self.assertEqual(contained(*read(first, ", ".join(fewer)))[0], "no")


class No(unittest.TestCase):
    def test_lists_that_are_not_contained(self):
        for first, second in NOT_CONTAINED:
            with self.subTest(first=first, second=second):
                first, second = read(first, second)
                found = contained(first, second)
                self.assertEqual(found, plain.contained(first, second))
                document, place = walk_document(found[1])
                self.assertTrue(any(matches(document, place, selector) for selector in first))
                self.assertFalse(any(matches(document, place, selector) for selector in second))

    def check(self, first, second, walk):
        self.assertEqual(contained(*read(first, second)), ("no", walk))

    def test_the_first_letter(self):
        self.check("*", "", (("root", ("z", ())),))
        self.check("a", "", (("root", ("a", ())),))
        self.check("*!a", "", (("root", ("z", ())),))
        self.check("zz, y", "", (("root", ("y", ())),))
        self.check("zz", "", (("root", ("zz", ())),))
        self.check("*.x, z", "", (("root", ("z", ())),))
        self.check("*.x, b.y", "", (("root", ("b", ("x",))),))
        self.check("*", "*!.x", (("root", ("z", ("x",))),))
        self.check("*", "a, z", (("root", ("zz", ())),))
        self.check("*.x, *.y", "*!.y", (("root", ("z", ("y",))),))

    def test_fewer_steps_come_first(self):
        self.check("a a, c", "", (("root", ("c", ())),))
        self.check("a > a > a, b b", "", (("root", ("b", ())), ("down", ("b", ()))))
        self.check("* + *, a > b > c", "", (("root", ("a", ())), ("down", ("a", ())), ("right", ("a", ()))))

    def test_down_comes_before_right(self):
        self.check("* + *, * > * > *", "", (("root", ("z", ())), ("down", ("z", ())), ("down", ("z", ()))))
        self.check("* + *, * > * > a", "", (("root", ("a", ())), ("down", ("a", ())), ("down", ("a", ()))))
        # The move of a step comes before its letter.
        self.check(
            "* + a, * > * > b", "",
            (("root", ("a", ())), ("down", ("a", ())), ("down", ("b", ()))),
        )
        # An earlier step that differs decides, whatever comes later.
        self.check(
            "a + a, b > * > *", "",
            (("root", ("a", ())), ("down", ("a", ())), ("right", ("a", ()))),
        )

    def test_letters_that_no_part_tells_apart(self):
        self.check("* > *.x", "a", (("root", ("a", ())), ("down", ("z", ("x",)))))
        self.check("a.y *", "*:0+1", (("root", ("a", ("y",))), ("down", ("a", ())), ("right", ("a", ()))))

    def test_a_number_far_away(self):
        steps = [("right", ("z", ()))] * 11
        self.check("*:6+0", "*:0+6", (("root", ("z", ())), ("down", ("z", ())), *steps))

    def test_the_empty_list_contains_what_nothing_matches(self):
        self.assertEqual(contained(*read("a!a", ""))[0], "yes")
        self.assertEqual(contained(*read("a!b", ""))[0], "no")

    def test_every_walk_before_the_first_one(self):
        # All walks, in their order: not even those to a known state are left out.
        for seed in range(150):
            first, second = small(seed)
            found = contained_or_none(first, second)
            if found is None or found[0] == "yes" or len(found[1]) > 3:
                continue
            row = plain.letters(first, second)
            some = [walk for length in (1, 2, 3) for walk in plain.walks(row, length)]
            self.assertEqual(found[1], next(walk for walk in some if plain.is_bad(first, second, walk)))


class AgainstASearch(unittest.TestCase):
    def test_small_inputs(self):
        answers = []
        for seed in range(250):
            first, second = small(seed)
            found = contained_or_none(first, second)
            if found is None or found[0] == "yes" and len(found[1]) > 150:
                continue
            with self.subTest(first=selectors_text(first), second=selectors_text(second)):
                self.assertEqual(found, plain.contained(first, second))
                answers.append(found[0])
        self.assertGreater(answers.count("yes"), 50)
        self.assertGreater(answers.count("no"), 50)

    def test_inputs_with_more_names(self):
        answers = []
        for seed in range(120):
            draw = random.Random(seed)
            first, second = drawn.selectors(draw, 2, 2), drawn.selectors(draw, 3, 2)
            found = contained_or_none(first, second)
            if found is None or found[0] == "yes" and len(found[1]) > 20:
                continue
            with self.subTest(first=selectors_text(first), second=selectors_text(second)):
                self.assertEqual(found, plain.contained(first, second))
                answers.append(found[0])
        self.assertGreater(answers.count("no"), 30)

    def test_documents(self):
        # The first promise of point 2, on documents that have nothing to do with the walks.
        for seed in range(120):
            first, second = small(seed)
            found = contained_or_none(first, second)
            if found is None or found[0] == "no":
                continue
            for more in range(10):
                draw = random.Random(1000 * seed + more)
                document = drawn.document(draw, size=10, kinds="ab")
                missing = set(matching(document, first)) - set(matching(document, second))
                self.assertEqual(missing, set())


class TooManyAtAll(unittest.TestCase):
    # The lists have so many states: found by a search, counted here.
    thousand = "*:2+0, a.x:1+5 *.x, *"
    one_more = "b:6+1, *, *:0+2 b"

    def test_letters(self):
        for first, second in (("*.a.b.c", "*.d.e.f"), ("a, b, c, d, e, f", ""), ("", "*!a!b!c, *!d!e!f")):
            with self.subTest(first=first, second=second):
                with self.assertRaises(TooMany):
                    contained(*read(first, second))

    def test_many_letters_come_before_a_bad_state(self):
        with self.assertRaises(TooMany):
            contained(*read("*", "a, b, c, d, e, f"))

    def test_not_at_the_1000th_state(self):
        for first in ("", self.thousand):
            answer, table = contained(*read(first, self.thousand))
            self.assertEqual((answer, len(table)), ("yes", 1000))
            self.assertIs(accepts(*read(first, self.thousand), table), True)

    def test_at_the_1001st_state(self):
        for first in ("", self.one_more):
            with self.assertRaises(TooMany):
                contained(*read(first, self.one_more))

    def test_the_1001st_state_by_the_functions_of_the_walks(self):
        for text, expected in ((self.thousand, 1000), (self.one_more, 1001)):
            self.assertEqual(len(all_states((), parse_selectors(text))), expected)

    def test_a_bad_state_before_the_1001st(self):
        # The lists have more than 1,000 states.
        second = "a.x:6+5 ~ b b, a:5+4 ~ b"
        with self.assertRaises(TooMany):
            contained(*read("", second))
        self.assertEqual(contained(*read("b", second)), ("no", (("root", ("b", ())),)))
        self.assertEqual(contained(*read("a + b", second))[0], "no")
        self.assertEqual(contained(*read("a:0+3", second))[0], "no")

    def test_the_last_states(self):
        # The first bad state is the 1,000th, the 1,001st and the 1,002nd that is met.
        self.assertEqual(contained(*read("*.x *!a:1+6 ~ *", "a:1+2, a.x!a!b!.x:3+1"))[0], "no")
        self.assertEqual(contained(*read("b:5+0", "b ~ b!b:1+5, *.x > *:0+1"))[0], "no")
        with self.assertRaises(TooMany):
            contained(*read("*!a!b!.x:0+6 ~ b *:4+0", "*:0+2, b.x + b!b!.x"))


def replaced(table, at, state):
    return (*table[:at], state, *table[at + 1:])


class Accepts(unittest.TestCase):
    first, second = read("* > a", "* a:1+1, a")

    def setUp(self):
        answer, self.table = contained(self.first, self.second)
        self.assertEqual(answer, "yes")

    def check(self, table, expected):
        self.assertIs(accepts(self.first, self.second, table), expected)

    def check_no_entry(self, value):
        """A value that is no state, beside the states and in the place of one."""
        self.check((*self.table, value), False)
        self.check((value, *self.table), False)
        for at in (0, len(self.table) // 2, len(self.table) - 1):
            self.check(replaced(self.table, at, value), False)

    def test_the_table(self):
        self.check(self.table, True)

    def test_another_order(self):
        self.check(self.table[::-1], True)
        self.check(self.table[7:] + self.table[:7], True)
        for seed in range(5):
            other = list(self.table)
            random.Random(seed).shuffle(other)
            self.check(tuple(other), True)

    def test_one_state_less(self):
        for at in range(len(self.table)):
            self.check(self.table[:at] + self.table[at + 1:], False)

    def test_one_state_twice(self):
        for state in self.table:
            self.check((*self.table, state), False)
            self.check((state, *self.table), False)

    def test_the_empty_table(self):
        self.check((), False)
        self.assertIs(accepts((), (), ()), False)

    def test_two_empty_lists(self):
        self.assertIs(accepts((), (), ((0, 0, ()), (1, 0, ()))), True)
        self.assertIs(accepts((), (), ((1, 0, ()), (0, 0, ()))), True)
        for table in (((0, 0, ()),), ((1, 0, ()),), ((0, 0, ()), (1, 0, ()), (1, 1, ())), ((0, 0, ()), (1, 0, ((),)))):
            self.assertIs(accepts((), (), table), False)

    def test_a_bad_state(self):
        # Tables that are closed, for lists that are not contained.
        for first, second in (("a", "b"), ("a *", "a > *"), ("*:2+0", "*:4+0"), ("a", "")):
            first, second = read(first, second)
            table = all_states(first, second)
            self.assertIs(accepts(first, second, table), False)
            good = tuple([state for state in table if not is_bad(first, second, state)])
            self.assertIs(accepts(first, second, good), False)
            # The states are the same ones if nothing is to be contained.
            self.assertIs(accepts((), first + second, table), True)

    def test_states_that_no_walk_leads_to(self):
        # Such states are allowed if what follows them is in the table, too.
        first, second = read("a", "a")
        table = list(contained(first, second)[1])
        yes, no = (True,), (False,)
        table.append((0, 0, ((no, yes, yes, yes, yes),) * 2))
        self.assertNotIn(table[-1], contained(first, second)[1])
        self.assertIs(accepts(first, second, tuple(table)), True)
        table[-1] = (0, 0, ((no, no, no, yes, no), (no, no, no, no, yes)))
        self.assertIs(accepts(first, second, tuple(table)), True)
        # This one is like another state but for what its next siblings have before them.
        table[-1] = (1, 0, ((no, no, no, no, no), (no, no, no, no, yes)))
        self.assertIs(accepts(first, second, tuple(table)), False)
        table[-1] = (0, 0, ((yes, no, no, no, no), (no, no, no, no, no)))
        self.assertIs(accepts(first, second, tuple(table)), False)

    def test_nothing_stands_beside_a_root(self):
        first, second = read("*", "*")
        table = contained(first, second)[1]
        beside = next_state(first, second, table[0], "right", ("z", ()))
        self.assertEqual(table[0][0], 0)
        self.assertNotIn(beside, table)
        self.assertIs(accepts(first, second, table), True)

    def test_something_stands_beside_any_other_element(self):
        first, second = read("*", "*")
        table = contained(first, second)[1]
        self.assertEqual(len(table), 3)
        later = next_state(first, second, table[1], "right", ("z", ()))
        self.assertEqual(table[2], later)
        self.assertIs(accepts(first, second, table[:2]), False)

    def test_values_that_are_no_tuple(self):
        for value in (list(self.table), None, True, False, 0, 1, "yes", b"", {}, {state: 1 for state in self.table},
                      set(self.table), frozenset(self.table), object()):
            self.check(value, False)
        self.check(("yes", self.table), False)
        self.check((self.table,), False)

    def test_entries_that_are_no_states(self):
        for value in (None, True, 0, 1, "", "abc", (), [], {}, set(), (0,), (0, 1), (0, 0, (), ()), object()):
            self.check_no_entry(value)

    def test_lists_in_the_place_of_tuples(self):
        for at in (0, len(self.table) - 1):
            depth, count, rows = self.table[at]
            row = rows[0]
            for value in (
                [depth, count, rows],
                (depth, count, list(rows)),
                (depth, count, (list(row), *rows[1:])),
                (depth, count, (*rows[:-1], list(rows[-1]))),
                (depth, count, ((list(row[0]), *row[1:]), *rows[1:])),
                (depth, count, ((*row[:-1], list(row[-1])), *rows[1:])),
            ):
                self.check(replaced(self.table, at, value), False)
                self.check_no_entry(value)

    def test_integers_and_truth_values(self):
        for at, state in enumerate(self.table):
            depth, count, rows = state
            numbers = tuple([tuple([tuple([int(truth) for truth in truths]) for truths in row]) for row in rows])
            last = (*rows[-1][:-1], numbers[-1][-1])
            for value in (
                (bool(depth), count, rows),
                (depth, bool(count), rows),
                (depth, count, numbers),
                (depth, count, (*rows[:-1], last)),
            ):
                # Python takes it for equal to the state, where the count is 1.
                self.assertTrue(value == state or count != 1)
                self.check(replaced(self.table, at, value), False)

    def test_truth_values_for_a_count_of_0(self):
        first, second = read("a", "a")
        table = contained(first, second)[1]
        for at, (depth, count, rows) in enumerate(table):
            self.assertIs(accepts(first, second, replaced(table, at, (depth, False, rows))), False)

    def test_other_values_in_a_state(self):
        depth, count, rows = self.table[-1]
        for value in (None, "1", 1.0, (), (1,)):
            self.check_no_entry((value, count, rows))
            self.check_no_entry((depth, value, rows))
        for value in (None, True, "", "abc", 3):
            self.check_no_entry((depth, count, value))
            self.check_no_entry((depth, count, (value, *rows[1:])))
            self.check_no_entry((depth, count, ((value, *rows[0][1:]), *rows[1:])))
        for value in (None, "", 0, 1, (), (True,)):
            truths = (value, *rows[0][2][1:])
            self.check_no_entry((depth, count, ((*rows[0][:2], truths, *rows[0][3:]), *rows[1:])))

    def test_a_depth_of_2(self):
        for state in (self.table[0], self.table[-1]):
            for depth in (2, -1, 3):
                self.check_no_entry((depth, *state[1:]))

    def test_rows_too_few_or_too_many(self):
        for depth, count, rows in (self.table[0], self.table[-1]):
            self.check_no_entry((depth, count, rows[:-1]))
            self.check_no_entry((depth, count, rows[1:]))
            self.check_no_entry((depth, count, ()))
            self.check_no_entry((depth, count, (*rows, rows[-1])))
            self.check_no_entry((depth, count, (*rows, ())))
            for at in range(len(rows)):
                for row in (rows[at][:-1], (*rows[at], rows[at][-1]), (), rows[at][:4]):
                    self.check_no_entry((depth, count, replaced(rows, at, row)))

    def test_truth_values_too_few_or_too_many(self):
        depth, count, rows = self.table[-1]
        for at, row in enumerate(rows):
            for field in range(5):
                for truths in (row[field][:-1], (*row[field], False), (*row[field], True), ()):
                    changed = replaced(rows, at, replaced(row, field, truths))
                    self.check_no_entry((depth, count, changed))

    def test_rows_of_other_lengths_that_have_as_many_values(self):
        # The rows of a part and of two parts trade places.
        depth, count, rows = self.table[-1]
        self.assertEqual([len(row[0]) for row in rows], [2, 2, 1])
        self.check_no_entry((depth, count, (rows[2], rows[1], rows[0])))
        self.check_no_entry((depth, count, (rows[0], rows[2], rows[1])))

    def test_too_many_comes_first(self):
        for first, second in (("*.a.b.c", "*.d.e"), ("a, b, c", "d, e, f")):
            for table in ((), None, [], ((0, 0, ()),), ("no",)):
                with self.assertRaises(TooMany):
                    accepts(*read(first, second), table)

    def test_no_other_bound(self):
        # The bound of 1,000 states is none of this function.
        second = parse_selectors(TooManyAtAll.one_more)
        table = all_states((), second)
        self.assertEqual(len(table), 1001)
        self.assertIs(accepts((), second, table), True)
        self.assertIs(accepts((), second, table[:-1]), False)

    def test_against_the_definition(self):
        for seed in range(60):
            first, second = small(seed)
            found = contained_or_none(first, second)
            if found is None or found[0] == "no" or len(found[1]) > 60:
                continue
            self.assertIs(accepts(first, second, found[1]), True)
            for at in range(len(found[1])):
                self.assertIs(accepts(first, second, found[1][:at] + found[1][at + 1:]), False)

    def test_bools(self):
        self.assertIs(accepts((), (), contained((), ())[1]), True)
        self.assertIs(accepts((), (), 5), False)


class Counts(unittest.TestCase):
    """The counts that a state may have."""

    def check(self, text, good):
        second = parse_selectors(text)
        table = contained((), second)[1]
        self.assertIs(accepts((), second, table), True)
        row = table[0][2][0]
        for count in range(-3, 80):
            # No walk leads to a root with an earlier sibling, and nothing new follows it.
            other = (0, count, ((*row[:4], (True,) * len(row[4])),))
            with self.subTest(text=text, count=count):
                self.assertIs(accepts((), second, (*table, other)), count in good)

    def test_no_pair(self):
        self.check("a", (0,))

    def test_pairs(self):
        self.check("*:2+0", (1, 2))
        self.check("*:2+1", (1, 2, 3))
        self.check("*:0+0", (1,))
        self.check("*:0+3", (1, 2, 3, 4))
        self.check("*:1+1", (1, 2))
        self.check("*:6+2", range(1, 9))
        self.check("*:2+0 > *:3+1", range(1, 8))
        self.check("*:0+4 > *:2+0", range(1, 7))
        self.check("*:4+0 > *:5+6 > *:3+0", range(1, 67))

    def test_another_count_in_the_place_of_one(self):
        first, second = read("*:0+2", "*:2+0")
        table = contained(first, second)[1]
        for at, (depth, count, rows) in enumerate(table):
            for other in (0, 5, 6, -1, count + 10, True):
                self.assertIs(accepts(first, second, replaced(table, at, (depth, other, rows))), False)


class Arguments(unittest.TestCase):
    def test_they_stay_as_they_were(self):
        first, second = read("* > a:2+0", "* a:1+1, a")
        answer, table = contained(first, second)
        self.assertEqual(answer, "yes")
        before = copy.deepcopy((first, second, table))
        contained(first, second)
        accepts(first, second, table)
        self.assertEqual((first, second, table), before)
        listed = [list(state) for state in table]
        accepts(first, second, listed)
        self.assertEqual(listed, [list(state) for state in table])


if __name__ == "__main__":
    unittest.main()
