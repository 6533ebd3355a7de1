"""Points 3, 7, 8 and 28 for twolistings.rules: right and wrong rules, places, rows that are used, changes."""

import itertools
import unittest

from twolistings.errors import BadModes, BadRow, NoPlace
from twolistings.rules import Rule

EVENTS = ["head", "strike", "other", "named", "struck", "absent"]
LETTERS = {event: ["s", "k", "o"] for event in EVENTS}
LETTERS["head"] = LETTERS["head"] + ["n"]
LETTERS["named"] = LETTERS["named"] + ["x"]
ROW = ((), 0, "s", "k")


def modes_with(event, rows, mode=0, size=1):
    """Modes without rows but for these."""
    modes = [[[] for _ in EVENTS] for _ in range(size)]
    modes[mode][EVENTS.index(event)] = rows
    return modes


def deep(value, levels, kind):
    for _ in range(levels):
        value = kind([value])
    return value


def rich_modes():
    """Three modes, of 18 places of which no two have the same rows."""
    conditions = list(itertools.product("sko", ("==", "!="), "sko"))
    modes = [[], [], []]
    for place, condition in enumerate(conditions):
        mode, at = place // 6, place % 6
        letter = LETTERS[EVENTS[at]][-1]
        rows = [((condition,), mode, letter, "k"), ((condition, (letter, "!=", "s")), 2 - mode, "o", letter), ROW]
        modes[mode].append(rows[:1 + (mode + at) % 3])
    return modes


# No list in these is changed by a test.
VALUES = [
    None, True, False, 0, 1, -1, 10 ** 39, "", "a", "head", "s", (), [], (1,), [1], ("s",), [[]], ((),),
    deep(None, 30, list), deep("s", 30, lambda items: tuple(items)),
]


class Right(unittest.TestCase):
    def test_the_rich_modes_are_of_different_rows(self):
        found = [tuple(rows) for mode in rich_modes() for rows in mode]
        self.assertEqual([len(found), len(set(found))], [18, 18])

    def test_modes_of_one_two_and_three_modes(self):
        for size in (1, 2, 3):
            modes = rich_modes()[:size]
            modes = [[[(row[0], min(row[1], size - 1), *row[2:]) for row in rows] for rows in mode] for mode in modes]
            rule = Rule(modes)
            self.assertEqual(rule.modes, modes)
            self.assertEqual(len(rule), size)

    def test_modes_without_rows(self):
        for size in (1, 2, 3):
            modes = [[[] for _ in EVENTS] for _ in range(size)]
            self.assertEqual([Rule(modes).modes, len(Rule(modes))], [modes, size])

    def test_kinds_of_the_modes_told(self):
        for mode in Rule(rich_modes()).modes:
            self.assertIs(type(mode), list)
            for rows in mode:
                self.assertIs(type(rows), list)
                for row in rows:
                    self.assertIs(type(row), tuple)
                    self.assertIs(type(row[0]), tuple)

    def test_four_rows_and_two_conditions(self):
        row = ((("s", "==", "k"), ("o", "!=", "s")), 0, "o", "o")
        modes = modes_with("absent", [row, row, ROW, ROW])
        self.assertEqual(Rule(modes).modes, modes)

    def test_every_letter_at_every_event(self):
        for event in EVENTS:
            for first, second in itertools.product(LETTERS[event], repeat=2):
                for sign in ("==", "!="):
                    modes = modes_with(event, [(((first, sign, second),), 0, first, second)])
                    self.assertEqual(Rule(modes).modes, modes)

    def test_every_number_of_a_mode(self):
        for size in (1, 2, 3):
            for mode, number in itertools.product(range(size), repeat=2):
                modes = modes_with("other", [((), number, "s", "k")], mode, size)
                self.assertEqual(Rule(modes).modes, modes)

    def test_by_name(self):
        self.assertEqual(Rule(modes=rich_modes()).modes, rich_modes())

    def test_the_same_list_at_several_places(self):
        rows = [ROW]
        rule = Rule([[rows] * 6] * 3)
        self.assertEqual(rule.modes, [[[ROW]] * 6] * 3)
        told = rule.modes
        told[0][0].append(ROW)
        self.assertEqual([told[0][1], told[1][0]], [[ROW], [ROW]])


class Interface(unittest.TestCase):
    def test_what_the_interface_lists_is_defined_in_the_class(self):
        names = ["modes", "changed", "heads", "last_list", "all_lists", "waiting", "checking", "twice", "primed",
                 "__init__", "__len__", "__getitem__", "__call__", "__eq__"]
        for name in names:
            self.assertIn(name, vars(Rule))
        self.assertIsInstance(vars(Rule)["modes"], property)
        for name in names[2:9]:
            self.assertIsInstance(vars(Rule)[name], staticmethod)
        self.assertEqual(Rule.__module__, "twolistings.rules")

    def test_example_of_the_rows_of_checking(self):
        rule = Rule.checking()
        told = [
            rule[(0, "strike")],
            len(rule),
            rule(0, "named", {"s": 1, "k": 3, "o": 0, "x": 2}),
            rule(0, "head", {"s": 0, "k": 0, "o": 0, "n": 1}),
        ]
        self.assertEqual(told, [[((), 0, "s", "o")], 1, (1, ((), 0, "s", "k")), (0, ((), 0, "s", "n"))])

    def test_example_of_a_bad_row(self):
        with self.assertRaises(BadRow) as held:
            Rule([[[], [((), 0, "n", "k")], [], [], [], []]])
        self.assertEqual(held.exception.place, (0, "strike", 0))


class WrongModes(unittest.TestCase):
    def check(self, modes):
        with self.assertRaises(BadModes):
            Rule(modes)

    def test_values_that_are_no_modes(self):
        for value in VALUES:
            with self.subTest(value):
                self.check(value)

    def test_no_mode_and_four_modes(self):
        self.check([])
        self.check([[[]] * 6] * 4)

    def test_modes_in_a_tuple(self):
        self.check(([[]] * 6,))

    def test_a_mode_that_is_no_list_of_six(self):
        for value in [*VALUES, [[]] * 5, [[]] * 7, ([],) * 6]:
            for at in range(3):
                modes = rich_modes()
                modes[at] = value
                with self.subTest(value, at=at):
                    self.check(modes)

    def test_rows_that_are_no_list_of_at_most_four(self):
        wrong = [value for value in VALUES if type(value) is not list]
        for value in [*wrong, (ROW,), ROW, [ROW] * 5, [1] * 5]:
            for mode, at in itertools.product(range(3), range(6)):
                modes = rich_modes()
                modes[mode][at] = value
                with self.subTest(value, mode=mode, at=at):
                    self.check(modes)

    def test_ahead_of_each_bad_row(self):
        modes = modes_with("head", ["no row"], size=2)
        modes[1][5] = [ROW] * 5
        self.check(modes)
        self.check([[["no row"], [], [], [], [], []], [[]] * 5])
        self.check([[["no row"], [], [], [], [], ()]])

    def test_a_wrong_call_leaves_the_lists_as_they_are(self):
        modes = modes_with("absent", [ROW] * 5)
        self.check(modes)
        self.assertEqual(modes, modes_with("absent", [ROW] * 5))


class WrongRows(unittest.TestCase):
    def check(self, modes, place):
        with self.assertRaises(BadRow) as held:
            Rule(modes)
        self.assertEqual(held.exception.place, place)
        self.assertEqual([type(part) for part in held.exception.place], [int, str, int])

    def check_row(self, row, event="other"):
        """That this is no row of an event, wherever it stands."""
        for mode, at in ((0, 0), (1, 3)):
            rows = [ROW] * at + [row]
            with self.subTest(row, event=event, mode=mode, at=at):
                self.check(modes_with(event, rows, mode, 2), (mode, event, at))

    def test_values_that_are_no_rows(self):
        for value in VALUES:
            for event in EVENTS:
                self.check_row(value, event)

    def test_lists_for_tuples(self):
        self.check_row(list(ROW))
        self.check_row(([], 0, "s", "k"))
        self.check_row(([("s", "==", "k")], 0, "s", "k"))
        self.check_row(((["s", "==", "k"],), 0, "s", "k"))

    def test_rows_too_short_and_too_long(self):
        self.check_row(((), 0, "s"))
        self.check_row((0, "s", "k"))
        self.check_row(((), 0, "s", "k", "o"))
        self.check_row(((), 0, "s", "k", ()))

    def test_three_conditions(self):
        condition = ("s", "==", "k")
        self.check_row(((condition,) * 3, 0, "s", "k"))
        self.check_row(((condition,) * 5, 0, "s", "k"))

    def test_conditions_that_are_none(self):
        for value in VALUES:
            if value != ():
                self.check_row((value, 0, "s", "k"))
            self.check_row(((value,), 0, "s", "k"))
            self.check_row(((("s", "==", "k"), value), 0, "s", "k"))
            self.check_row(((value, ("s", "==", "k")), 0, "s", "k"))

    def test_a_condition_too_short_and_too_long(self):
        self.check_row(((("s", "=="),), 0, "s", "k"))
        self.check_row(((("s", "==", "k", "o"),), 0, "s", "k"))
        self.check_row((("s", "==", "k"), 0, "s", "k"))

    def test_wrong_signs(self):
        for sign in [*VALUES, "=", "<", "!", "===", " ==", "is", ("==",), "==!="]:
            self.check_row(((("s", sign, "k"),), 0, "s", "k"))
            self.check_row(((("s", "==", "k"), ("s", sign, "k")), 0, "s", "k"))

    def test_letters_that_are_none(self):
        for letter in [*VALUES, "S", "sk", "ks", "so", "skon", "a", "kept"]:
            if letter != "s":
                self.check_row((((letter, "==", "k"),), 0, "s", "k"))
                self.check_row(((("k", "==", letter),), 0, "s", "k"))
                self.check_row(((), 0, letter, "k"))
                self.check_row(((), 0, "s", letter))

    def test_letters_of_other_events(self):
        for event in EVENTS:
            for letter in ("n", "x"):
                if letter not in LETTERS[event]:
                    self.check_row((((letter, "==", "k"),), 0, "s", "k"), event)
                    self.check_row(((("k", "!=", letter),), 0, "s", "k"), event)
                    self.check_row(((), 0, letter, "k"), event)
                    self.check_row(((), 0, "s", letter), event)

    def test_modes_that_are_no_numbers_of_modes(self):
        for mode in [value for value in VALUES if type(value) is not int] + [-1, 2, 3, 10 ** 40, "0", (0,)]:
            self.check_row(((), mode, "s", "k"))

    def test_a_number_of_a_mode_that_is_not_there(self):
        for size in (1, 2, 3):
            for mode in (-size, -1, size, size + 1):
                self.check(modes_with("struck", [((), mode, "s", "k")], 0, size), (0, "struck", 0))

    def test_true_and_false_for_numbers(self):
        for size in (1, 2, 3):
            for mode in (True, False):
                self.check(modes_with("named", [ROW, ((), mode, "s", "k")], size - 1, size), (size - 1, "named", 1))


class FirstPlace(unittest.TestCase):
    def check(self, modes, place):
        with self.assertRaises(BadRow) as held:
            Rule(modes)
        self.assertEqual(held.exception.place, place)

    def test_each_place_alone(self):
        for mode, at, number in itertools.product(range(3), range(6), range(4)):
            modes = [[[ROW] * 4 for _ in EVENTS] for _ in range(3)]
            modes[mode][at][number] = "no row"
            self.check(modes, (mode, EVENTS[at], number))

    def test_all_from_a_place_on(self):
        places = list(itertools.product(range(3), range(6), range(4)))
        for first, (mode, at, number) in enumerate(places):
            modes = [[[ROW] * 4 for _ in EVENTS] for _ in range(3)]
            for other_mode, other_at, other_number in places[first:]:
                modes[other_mode][other_at][other_number] = None
            self.check(modes, (mode, EVENTS[at], number))

    def test_mode_ahead_of_event_ahead_of_number(self):
        modes = [[[ROW] * 4 for _ in EVENTS] for _ in range(2)]
        modes[1][0][0] = modes[0][5][0] = modes[0][4][3] = 0
        self.check(modes, (0, "struck", 3))


class Copies(unittest.TestCase):
    def test_later_changes_of_the_lists_handed_in(self):
        modes = rich_modes()
        rule = Rule(modes)
        modes[0][0][0] = ROW
        modes[1][1].clear()
        modes[2].clear()
        modes.append([[]] * 6)
        self.assertEqual([rule.modes, len(rule)], [rich_modes(), 3])

    def test_changes_of_the_modes_told(self):
        rule = Rule(rich_modes())
        told = rule.modes
        told[0][0][0] = ROW
        told[1][1].clear()
        told[2].clear()
        told.clear()
        self.assertEqual([rule.modes, len(rule)], [rich_modes(), 3])

    def test_changes_of_the_rows_told(self):
        rule = Rule(rich_modes())
        for mode, event in itertools.product(range(3), EVENTS):
            rule[(mode, event)].clear()
            rule[(mode, event)].append(ROW)
        self.assertEqual(rule.modes, rich_modes())

    def test_changes_of_the_rows_handed_to_changed(self):
        rows = [ROW]
        rule = Rule.heads().changed(0, "other", rows)
        rows.append("no row")
        self.assertEqual(rule[(0, "other")], [ROW])

    def test_entries_are_left_as_they_are(self):
        entries = {"s": 1, "k": 2, "o": 0, "x": 2}
        Rule.checking()(0, "named", entries)
        self.assertEqual(entries, {"s": 1, "k": 2, "o": 0, "x": 2})


NO_PLACES = [
    *VALUES,
    (0,), (0, "head", 0), (0, "head", ()), ("head", 0), ("head",), [0, "head"], ([0], "head"), ((0,), "head"),
    (0, ["head"]), (0, ("head",)), (0, "heads"), (0, "Head"), (0, ""), (0, None), (0, 0), (0, True), (None, "head"),
    (True, "head"), (False, "head"), ("0", "head"), ("", "head"), (-1, "head"), (-2, "other"), (2, "head"),
    (3, "absent"), (10 ** 40, "named"), (0, "n"), (0, "rest"), (deep([], 28, list), "head"),
    (0, deep([], 28, list)), ((0, "head"), "head"), ((0, "head"),),
]


class Places(unittest.TestCase):
    def test_the_rows_of_each_place(self):
        rule = Rule(rich_modes())
        for mode in range(3):
            for at, event in enumerate(EVENTS):
                self.assertEqual(rule[(mode, event)], rich_modes()[mode][at])
                self.assertIs(type(rule[(mode, event)]), list)

    def test_no_places(self):
        rule = Rule.primed()
        for value in NO_PLACES:
            with self.subTest(value):
                with self.assertRaises(NoPlace) as held:
                    rule[value]
                self.assertIs(held.exception.place, value)

    def test_modes_that_are_not_there(self):
        for rule in (Rule.heads(), Rule.primed(), Rule(rich_modes())):
            for mode in (-1, len(rule), len(rule) + 1):
                with self.assertRaises(NoPlace) as held:
                    rule[(mode, "head")]
                self.assertEqual(held.exception.place, (mode, "head"))

    def test_a_rule_is_no_list(self):
        with self.assertRaises(TypeError):
            list(Rule.heads())


class Used(unittest.TestCase):
    def check(self, rows, event, entries, answer, mode=0, size=1):
        rule = Rule(modes_with(event, rows, mode, size))
        self.assertEqual(rule(mode, event, entries), answer)
        self.assertIs(type(rule(mode, event, entries)), tuple)
        self.assertIs(type(rule(mode, event, entries)[0]), int)

    def all_entries(self, event):
        """All ways in which entries of the letters can be equal or not."""
        letters = [letter for letter in LETTERS[event] if letter != "o"]
        for numbers in itertools.product(range(4), repeat=len(letters)):
            yield {"o": 0, **dict(zip(letters, numbers))}

    def test_no_rows(self):
        for size in (1, 2, 3):
            for event in EVENTS:
                for mode in range(size):
                    for entries in self.all_entries(event):
                        self.check([], event, entries, (0, ((), mode, "s", "k")), mode, size)

    def test_a_row_without_conditions(self):
        for event in EVENTS:
            row = ((), 1, LETTERS[event][-1], "o")
            for entries in self.all_entries(event):
                self.check([row, ROW], event, entries, (0, row), 0, 2)
                self.check([row, ROW], event, entries, (0, row), 1, 2)

    def test_each_condition(self):
        for event in EVENTS:
            for x, y in itertools.product(LETTERS[event], repeat=2):
                equal, other = (((x, "==", y),), 0, "o", "k"), (((x, "!=", y),), 0, "s", "o")
                for entries in self.all_entries(event):
                    holds = entries[x] == entries[y]
                    without = ((), 0, "s", "k")
                    self.check([equal], event, entries, (0, equal) if holds else (1, without))
                    self.check([other], event, entries, (1, without) if holds else (0, other))
                    self.check([equal, other], event, entries, (0, equal) if holds else (1, other))

    def test_two_conditions(self):
        signs = list(itertools.product(("==", "!="), repeat=2))
        for first, second in signs:
            row = ((("x", first, "k"), ("s", second, "o")), 0, "x", "x")
            for entries in self.all_entries("named"):
                holds = (entries["x"] == entries["k"]) == (first == "==")
                holds = holds and (entries["s"] == 0) == (second == "==")
                self.check([row], "named", entries, (0, row) if holds else (1, ((), 0, "s", "k")))

    def test_the_first_of_several(self):
        rows = [
            ((("n", "==", "s"),), 1, "n", "s"),
            ((("n", "!=", "k"), ("s", "==", "o")), 0, "k", "n"),
            ((("s", "!=", "o"),), 1, "o", "o"),
            ((("n", "==", "k"),), 0, "n", "n"),
        ]
        for mode in (0, 1):
            for s, k, n, at in [(0, 0, 0, 0), (2, 0, 2, 0), (0, 1, 2, 1), (1, 1, 2, 2), (0, 2, 2, 3)]:
                self.check(rows, "head", {"s": s, "k": k, "o": 0, "n": n}, (at, rows[at]), mode, 2)

    def test_none_of_several(self):
        rows = [((("s", "==", "k"),), 0, "o", "o"), ((("s", "!=", "o"), ("k", "==", "o")), 1, "o", "o")]
        for mode in (0, 1):
            without = (2, ((), mode, "s", "k"))
            self.check(rows, "struck", {"s": 0, "k": 5, "o": 0}, without, mode, 2)
            self.check(rows, "struck", {"s": 4, "k": 5, "o": 0}, without, mode, 2)

    def test_none_of_four(self):
        rows = [((("s", "!=", "s"),), 0, "o", "o")] * 4
        self.check(rows, "absent", {"s": 3, "k": 3, "o": 0}, (4, ((), 2, "s", "k")), 2, 3)

    def test_only_which_entries_are_equal_counts(self):
        rule = Rule.twice()
        for s, k, x in [(1, 2, 3), (7, 10 ** 30, 9), (4, 1, 2)]:
            self.assertEqual(rule(0, "named", {"s": s, "k": k, "o": 0, "x": x}), (1, ((), 0, "s", "x")))

    def test_by_name(self):
        entries = {"s": 0, "k": 0, "o": 0}
        self.assertEqual(Rule.heads()(entries=entries, event="strike", mode=0), (0, ((), 0, "o", "k")))

    def test_no_places(self):
        rule = Rule.primed()
        for place in [value for value in NO_PLACES if type(value) is tuple and len(value) == 2]:
            with self.subTest(place):
                with self.assertRaises(NoPlace) as held:
                    rule(*place, {"s": 0, "k": 0, "o": 0})
                self.assertEqual(held.exception.place, place)
                self.assertIs(type(held.exception.place), tuple)
                self.assertIs(held.exception.place[0], place[0])
                self.assertIs(held.exception.place[1], place[1])


class Changed(unittest.TestCase):
    def test_the_rule_that_has_the_rows_there(self):
        rows = [((("s", "!=", "k"),), 2, "o", "s"), ROW]
        for mode in range(3):
            for at, event in enumerate(EVENTS):
                rule = Rule(rich_modes())
                new = rule.changed(mode, event, rows)
                modes = rich_modes()
                modes[mode][at] = rows
                self.assertIs(type(new), Rule)
                self.assertEqual(new.modes, modes)
                self.assertEqual(rule.modes, rich_modes())

    def test_no_rows_and_four_rows(self):
        rule = Rule.last_list()
        self.assertEqual(rule.changed(0, "absent", []), Rule.all_lists())
        self.assertEqual(rule.changed(0, "head", [ROW] * 4)[(0, "head")], [ROW] * 4)

    def test_by_name(self):
        rule = Rule.all_lists().changed(rows=[((), 0, "o", "k")], event="absent", mode=0)
        self.assertEqual(rule, Rule.last_list())

    def test_no_places(self):
        rule = Rule.primed()
        for place in [value for value in NO_PLACES if type(value) is tuple and len(value) == 2]:
            for rows in ([], None, ["no row"], [ROW] * 5):
                with self.subTest(place, rows=rows):
                    with self.assertRaises(NoPlace) as held:
                        rule.changed(*place, rows)
                    self.assertEqual(held.exception.place, place)
                    self.assertIs(held.exception.place[0], place[0])
                    self.assertIs(held.exception.place[1], place[1])
        self.assertEqual(rule, Rule.primed())

    def test_bad_modes(self):
        rule = Rule(rich_modes())
        wrong = [value for value in VALUES if type(value) is not list]
        for value in [*wrong, ROW, (ROW,), [ROW] * 5, ["no row"] * 5]:
            with self.subTest(value), self.assertRaises(BadModes):
                rule.changed(1, "named", value)
        self.assertEqual(rule.modes, rich_modes())

    def test_bad_rows(self):
        rule = Rule.primed()
        for wrong in [*VALUES, list(ROW), ((), 2, "s", "k"), ((), True, "s", "k"), ((), 0, "n", "k")]:
            for at in range(4):
                rows = [ROW] * at + [wrong] + [None] * (3 - at)
                with self.subTest(wrong, at=at):
                    with self.assertRaises(BadRow) as held:
                        rule.changed(1, "named", rows)
                    self.assertEqual(held.exception.place, (1, "named", at))
                    self.assertEqual(rows, [ROW] * at + [wrong] + [None] * (3 - at))
        self.assertEqual(rule, Rule.primed())


class Equal(unittest.TestCase):
    def test_equal_modes(self):
        self.assertTrue(Rule(rich_modes()) == Rule(rich_modes()))
        self.assertFalse(Rule(rich_modes()) != Rule(rich_modes()))

    def test_other_modes(self):
        for mode, at in itertools.product(range(3), range(6)):
            modes = rich_modes()
            modes[mode][at].append(ROW)
            self.assertFalse(Rule(modes) == Rule(rich_modes()))
            self.assertTrue(Rule(modes) != Rule(rich_modes()))

    def test_more_modes(self):
        one, two = Rule([[[]] * 6]), Rule([[[]] * 6] * 2)
        self.assertFalse(one == two)
        self.assertFalse(two == one)

    def test_the_order_of_the_rows_counts(self):
        rows = [ROW, ((), 0, "o", "o")]
        self.assertFalse(Rule(modes_with("head", rows)) == Rule(modes_with("head", rows[::-1])))

    def test_any_other_object(self):
        rule = Rule(rich_modes())
        for value in [*VALUES, rich_modes(), rule.modes, tuple(rich_modes()), object(), Rule]:
            self.assertFalse(rule == value)
            self.assertTrue(rule != value)
            self.assertFalse(value == rule)


if __name__ == "__main__":
    unittest.main()
