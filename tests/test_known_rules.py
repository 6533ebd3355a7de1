"""Point 9: the seven known rules, row by row, and by what they do."""

import unittest

from twolistings.rules import Rule

EVENTS = ["head", "strike", "other", "named", "struck", "absent"]
SAME_NAMED = (("x", "==", "k"),)
NONE_KEPT = (("k", "==", "o"),)
KNOWN = {
    "heads": [{"head": [((), 0, "n", "k")], "strike": [((), 0, "o", "k")]}],
    "last_list": [{
        "named": [((), 0, "x", "k")], "struck": [((), 0, "o", "k")], "absent": [((), 0, "o", "k")]}],
    "all_lists": [{"named": [((), 0, "x", "k")], "struck": [((), 0, "o", "k")]}],
    "waiting": [{
        "head": [((), 0, "s", "n")], "strike": [((), 0, "s", "o")],
        "named": [((), 0, "k", "k")], "struck": [((), 0, "k", "k")], "absent": [((), 0, "k", "k")]}],
    "checking": [{
        "head": [((), 0, "s", "n")], "strike": [((), 0, "s", "o")],
        "named": [(SAME_NAMED, 0, "x", "k")], "struck": [(NONE_KEPT, 0, "o", "k")]}],
    "twice": [{
        "named": [(SAME_NAMED, 0, "x", "k"), ((), 0, "s", "x")],
        "struck": [(NONE_KEPT, 0, "o", "o"), ((), 0, "s", "o")]}],
    "primed": [
        {
            "named": [(SAME_NAMED, 1, "x", "k"), ((), 1, "s", "k")],
            "struck": [(NONE_KEPT, 1, "o", "k"), ((), 1, "s", "k")],
            "absent": [((), 1, "s", "k")]},
        {
            "head": [((), 0, "s", "n")], "strike": [((), 0, "s", "o")], "other": [((), 0, "s", "k")],
            "named": [(SAME_NAMED, 1, "x", "k"), ((), 1, "s", "k")],
            "struck": [(NONE_KEPT, 1, "o", "k"), ((), 1, "s", "k")],
            "absent": [((), 1, "s", "k")]}],
}
MADE = {
    "heads": Rule.heads, "last_list": Rule.last_list, "all_lists": Rule.all_lists, "waiting": Rule.waiting,
    "checking": Rule.checking, "twice": Rule.twice, "primed": Rule.primed,
}


def shown_along(rule, line):
    """What a reader with a rule shows after each event of a line, by the words of point 8."""
    mode, shown, kept, told = 0, 0, 0, []
    for event, entry in line:
        entries = {"s": shown, "k": kept, "o": 0, "n": entry, "x": entry}
        _, (_, mode, first, second) = rule(mode, event, entries)
        shown, kept = entries[first], entries[second]
        told.append(shown)
    return told


class Known(unittest.TestCase):
    def test_row_by_row(self):
        for name, modes in KNOWN.items():
            rule = MADE[name]()
            self.assertEqual(len(rule), len(modes))
            for number, mode in enumerate(modes):
                for event in EVENTS:
                    with self.subTest(name, mode=number, event=event):
                        self.assertEqual(rule[(number, event)], mode.get(event, []))

    def test_modes(self):
        for name, modes in KNOWN.items():
            wanted = [[mode.get(event, []) for event in EVENTS] for mode in modes]
            self.assertEqual(MADE[name]().modes, wanted)

    def test_no_two_are_equal(self):
        for name in MADE:
            for other in MADE:
                self.assertEqual(MADE[name]() == MADE[other](), name == other, (name, other))

    def test_each_is_made_anew(self):
        for name in MADE:
            MADE[name]().modes.clear()
            MADE[name]()[(0, "named")].clear()
            self.assertEqual(MADE[name]().modes, Rule(MADE[name]().modes).modes)
            self.assertEqual(MADE[name](), MADE[name]())

    def test_off_an_object(self):
        self.assertEqual(Rule.heads().primed(), Rule.primed())

    def test_what_they_show(self):
        line = [("head", 1), ("named", 1), ("named", 1), ("absent", 0), ("strike", 0), ("struck", 0), ("struck", 0)]
        wanted = {
            "heads": [1, 1, 1, 1, 0, 0, 0],
            "last_list": [0, 1, 1, 0, 0, 0, 0],
            "all_lists": [0, 1, 1, 1, 1, 0, 0],
            "waiting": [0, 1, 1, 1, 1, 0, 0],
            "checking": [0, 1, 1, 1, 1, 0, 0],
            "twice": [0, 0, 1, 1, 1, 1, 0],
            "primed": [0, 0, 0, 0, 0, 0, 0],
        }
        for name, told in wanted.items():
            self.assertEqual(shown_along(MADE[name](), line), told, name)

    def test_what_primed_shows(self):
        line = [("absent", 0), ("head", 2), ("named", 2), ("other", 0), ("strike", 0), ("struck", 0),
                ("strike", 0), ("struck", 0)]
        self.assertEqual(shown_along(Rule.primed(), line), [0, 0, 2, 2, 2, 2, 2, 0])


if __name__ == "__main__":
    unittest.main()
