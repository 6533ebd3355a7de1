"""Points 3, 23, 24, 27 and 28 for the guarded keepers of twolistings.keepers."""

import random
import unittest

from plays import edited_by_words, stray_by_words
from samples import FILE, KNOWN, NO_PLANS, NO_RULES, VALUES, raised, random_records, table_by_lines
from twolistings.archives import Archive
from twolistings.books import verdict
from twolistings.keepers import GuardedKeeper, Keeper
from twolistings.least import thin_book
from twolistings.readers import things
from twolistings.rules import Rule
from twolistings.trees import first_unclean

FOLDER, LINK = ("folder",), ("link", "a")
CHAIN = [Rule.last_list(), Rule.all_lists(), Rule.checking()]
NAMES = ["a", "a/b", "a/b/c", "a/d", "b", "b/a", "ab"]
GAMES = [([KNOWN[name] for name in names], plan) for names, plan in [
    (["heads"], "E"), (["all_lists"], "EL"), (["last_list", "checking"], "EL"), (["twice"], "ELL"), (["primed"], "LEL"),
    (["last_list", "all_lists", "checking"], "EL")]]


def guarded(rules, plan):
    return GuardedKeeper(rules, plan, thin_book(rules, plan, "sure")[0])


def tree_by_lines(rules, records):
    return things(Archive(records), table_by_lines(rules[0], records))


def unclean_by_words(tree):
    names = [name for name in tree if "/" in name and tree.get(name.rpartition("/")[0]) != FOLDER]
    return min(names, default=None)


def barred_by_words(tree, role, name, thing):
    """The name for which an edit is barred, None if it is let, by the words of point 24."""
    if role == "put" and "/" in name and tree.get(name.rpartition("/")[0]) != FOLDER:
        return name.rpartition("/")[0]
    below = sorted(other for other in tree if other.startswith(name + "/"))
    return below[0] if below and (role == "strike" or thing != FOLDER) else None


class Edits(unittest.TestCase):
    def test_example(self):
        keeper = GuardedKeeper([Rule.heads()], "E", thin_book([Rule.heads()], "E", "sure")[0])
        self.assertEqual(raised(keeper.put, "a/b", FOLDER), ("Barred", {"name": "a"}))

    def test_where_the_interface_is_defined(self):
        self.assertEqual(GuardedKeeper.__module__, "twolistings.keepers")
        self.assertTrue(issubclass(GuardedKeeper, Keeper))
        for name in ["__init__", "opened", "put", "strike", "attach", "copy"]:
            self.assertIn(name, vars(GuardedKeeper))

    def test_histories(self):
        rng, found = random.Random(111), []
        for rules, plan in GAMES * 2:
            keeper, records, words = guarded(rules, plan), [], dict(thin_book(rules, plan, "sure")[0])
            for _ in range(40):
                role, name = rng.choice(["put", "put", "strike", "mend"]), rng.choice(NAMES)
                thing = rng.choice([FOLDER, FILE])
                steps = rng.choice([None, None, *range(1, len(plan) + 1)])
                barred = barred_by_words(tree_by_lines(rules, records), role, name, thing) if role != "mend" else None
                if role == "put":
                    told, own = raised(keeper.put, name, thing, steps=steps), ("head", name, thing)
                elif role == "strike":
                    told, own = raised(keeper.strike, name, steps=steps), ("strike", name)
                else:
                    told, own, name, steps = keeper.mend(), None, None, None
                self.assertEqual(told, ("Barred", {"name": barred}) if barred else None)
                found.append(barred)
                if barred is None:
                    records = edited_by_words(rules, plan, words, records, role, name, own, steps)
                self.assertEqual(keeper.archive.records, records)
                self.assertIsNone(unclean_by_words(tree_by_lines(rules, records)))
            for size in range(len(records) + 1):
                self.assertIsNone(first_unclean(tree_by_lines(rules, records[:size])))
        self.assertGreater(len(set(found)), 4)

    def test_puts(self):
        for rules, plan in GAMES:
            keeper = guarded(rules, plan)
            self.assertIsNone(raised(keeper.put, "a", FOLDER))
            for name, thing, barred in [
                    ("a/b/c", FILE, "a/b"), ("b/c", FOLDER, "b"), ("a/b", FOLDER, None), ("ab/c", FILE, "ab"),
                    ("a/b/x", FILE, None), ("a/b/d", FILE, None), ("a/b", FOLDER, None), ("ab", FILE, None),
                    ("a", FOLDER, None), ("a", FILE, "a/b"), ("a", LINK, "a/b"), ("a/b", FILE, "a/b/d"),
                    ("a/b/x/y", FILE, "a/b/x"), ("ab/c", FILE, "ab"), ("a/b/d", FOLDER, None), ("a/c", LINK, None),
                    ("a/c/d", FILE, "a/c"), ("a-b", FILE, None), ("a/b/d", FILE, None)]:
                for steps in ([None] if barred is None else [None, 1, len(plan)]):
                    expected = ("Barred", {"name": barred}) if barred else None
                    self.assertEqual(raised(keeper.put, name, thing, steps=steps), expected, name)
            # The parent is told ahead of a name below.
            self.assertEqual(raised(keeper.put, "q/r", FILE), ("Barred", {"name": "q"}))

    def test_strikes(self):
        for rules, plan in GAMES:
            keeper = guarded(rules, plan)
            for name in ("a", "a/b", "a/b/c", "b", "ab"):
                keeper.put(name, FOLDER)
            for name, barred in [
                    ("a", "a/b"), ("a/b", "a/b/c"), ("a/b/c", None), ("a/b/c", None), ("a", "a/b"), ("b", None),
                    ("q", None), ("b/c", None), ("a/b", None), ("a", None), ("ab", None)]:
                for steps in ([None] if barred is None else [None, 1, len(plan)]):
                    expected = ("Barred", {"name": barred}) if barred else None
                    self.assertEqual(raised(keeper.strike, name, steps=steps), expected, name)
            self.assertEqual(keeper.tree(), {})

    def test_what_is_not_shown_does_not_count(self):
        # A stopped put shows nothing yet, so that nothing can be put below it, and it can be struck.
        keeper = guarded([Rule.all_lists()], "EL")
        keeper.put("a", FOLDER, steps=1)
        self.assertEqual(raised(keeper.put, "a/b", FILE), ("Barred", {"name": "a"}))
        keeper.put("a", FOLDER)
        keeper.put("a/b", FILE, steps=1)
        self.assertIsNone(raised(keeper.put, "a", FILE))
        self.assertIsNone(raised(keeper.strike, "a"))
        self.assertEqual([keeper.tree(), len(keeper.archive)], [{}, 8])

    def test_errors_that_come_first(self):
        keeper = guarded(CHAIN, "EL")
        keeper.put("a", FOLDER)
        keeper.put("a/b", FILE)
        before = (keeper.archive, keeper.tree())
        for call, given, steps, told in [
                (keeper.put, ("q//", FILE), None, "BadName"), (keeper.put, ("", None), 0, "BadName"),
                (keeper.put, ("q/r", None), 0, "BadThing"), (keeper.put, ("a", ("file",)), None, "BadThing"),
                (keeper.put, ("q/r", FILE), 0, "BadSteps"), (keeper.put, ("a", FILE), 3, "BadSteps"),
                (keeper.strike, ("a/",), 0, "BadName"), (keeper.strike, ("a",), True, "BadSteps")]:
            self.assertEqual(raised(call, *given, steps=steps), (told, {}))
        self.assertEqual(raised(keeper.cut, 5), ("NoRecord", {"number": 5}))
        self.assertEqual((keeper.archive, keeper.tree()), before)
        with self.assertRaises(TypeError):
            keeper.put("b", FILE, 1)
        with self.assertRaises(TypeError):
            keeper.strike("b", 1)
        keeper.put(steps=2, thing=FILE, name="b")
        keeper.strike(name="b", steps=2)
        self.assertEqual(len(keeper.archive), 8)

    def test_copies_are_guarded_and_go_on_by_themselves(self):
        keeper = guarded(CHAIN, "EL")
        keeper.put("a", FOLDER)
        twin = keeper.copy()
        self.assertIs(type(twin), GuardedKeeper)
        self.assertEqual(twin.archive, keeper.archive)
        twin.put("a/b", FILE)
        self.assertEqual(raised(twin.strike, "a"), ("Barred", {"name": "a/b"}))
        keeper.strike("a")
        self.assertEqual([keeper.tree(), twin.tree()], [{}, {"a": FOLDER, "a/b": FILE}])
        self.assertEqual(raised(keeper.copy().put, "a/b", FILE), ("Barred", {"name": "a"}))

    def test_cuts(self):
        keeper = guarded(CHAIN, "EL")
        for name in ("a", "a/b", "a/b/c"):
            keeper.put(name, FOLDER)
        keeper.cut(3)
        self.assertEqual(keeper.tree(), {"a": FOLDER})
        self.assertEqual(raised(keeper.put, "a/b/c", FILE), ("Barred", {"name": "a/b"}))
        self.assertIsNone(raised(keeper.strike, "a"))


class Attached(unittest.TestCase):
    def look_over(self, rules, plan, own, other):
        """Attaches records to a guarded keeper of own ones, after a look by words; returns what is raised."""
        book = thin_book(rules, plan, "sure")[0]
        keeper = GuardedKeeper.opened(rules, plan, book, Archive(own))
        rests, whole = [position for position, _ in book if position[0] == "rest"], own + other
        sizes = range(len(own) + 1, len(whole) + 1)
        strays = [(size, stray_by_words(rules, rests, whole[:size])) for size in sizes]
        strays = [("OffBook", {"number": size, "name": name}) for size, name in strays if name is not None]
        barred = [] if strays else [unclean_by_words(tree_by_lines(rules, whole[:size])) for size in sizes]
        barred = [("Barred", {"name": name}) for name in barred if name is not None]
        told = raised(keeper.attach, Archive(other))
        self.assertEqual(told, (strays + barred + [None])[0])
        self.assertEqual(keeper.archive.records, whole if told is None else own)
        self.assertEqual(keeper.tree(), tree_by_lines(rules, keeper.archive.records))
        if not own:
            self.assertEqual(raised(GuardedKeeper.opened, rules, plan, book, Archive(other)), told)
        return told

    def test_drawn_archives(self):
        rng, found = random.Random(112), []
        for rules, plan in GAMES:
            for _ in range(25):
                keeper = guarded(rules, plan)
                for name in rng.choice([[], ["a"], ["a", "b"], ["a", "a/b"]]):
                    keeper.put(name, FOLDER)
                other = random_records(rng, rng.randrange(9), rng.sample(NAMES, 3))
                told = self.look_over(rules, plan, keeper.archive.records, other)
                found.append(told[0] if told else None)
        for word in ("OffBook", "Barred", None):
            self.assertGreater(found.count(word), 8, word)

    def test_archives_of_unguarded_keepers(self):
        rng, found = random.Random(113), []
        for rules, plan in GAMES * 4:
            keeper = Keeper(rules, plan, "sure", thin_book(rules, plan, "sure")[0])
            for name in rng.sample(NAMES, 5):
                keeper.put(name, rng.choice([FOLDER, FOLDER, FOLDER, FILE]), steps=rng.choice([None, None, 1]))
                if rng.random() < 0.4:
                    keeper.strike(rng.choice(NAMES))
            records = keeper.archive.records
            # The beginning up to which the table is clean, and all of it.
            clean = [unclean_by_words(tree_by_lines(rules, records[:size])) is None for size in range(len(records) + 1)]
            many = (clean + [False]).index(False) - 1
            self.assertIsNone(self.look_over(rules, plan, [], records[:many]))
            found.append(self.look_over(rules, plan, [], records))
            if raised(Archive, records[many:]) is None:
                found.append(self.look_over(rules, plan, records[:many], records[many:]))
        self.assertIn(None, found)
        self.assertGreater(len({str(told) for told in found}), 4)

    def test_small_archives(self):
        rules, book = [Rule.heads()], thin_book([Rule.heads()], "E", "sure")[0]
        heads = {name: [("head", name, thing) for thing in (FOLDER, FILE, LINK)] for name in NAMES}
        for records, told in [
                ([heads["a"][0], heads["a/b"][1]], None), ([heads["a"][1], heads["a/b"][1]], "a/b"),
                ([heads["a/b"][1], heads["a"][0]], "a/b"), ([heads["b/a"][0], heads["a/b"][0]], "b/a"),
                ([heads["a"][0], heads["a/d"][1], heads["a/b"][0], heads["a"][2]], "a/b"),
                ([heads["a"][0], heads["a/b"][0], heads["a/b/c"][1], ("strike", "a")], "a/b"),
                ([heads["a"][0], heads["a/b"][0], heads["a/b/c"][1], ("strike", "a/b"), ("strike", "a")], "a/b/c"),
                ([heads["a"][0], heads["a/b"][0], ("strike", "a/b"), ("strike", "a"), heads["a"][1]], None),
                ([heads["a"][0], heads["a/b"][0], heads["a"][0], heads["a/b"][1]], None), ([], None)]:
            expected = ("Barred", {"name": told}) if told else None
            self.assertEqual(raised(GuardedKeeper.opened, rules, "E", book, Archive(records)), expected, records)

    def test_several_names_in_one_record(self):
        # A list shows and strikes several names at once.
        rules, book = [Rule.last_list()], thin_book([Rule.last_list()], "EL", "sure")[0]
        heads = [("head", "a", FOLDER), ("head", "a/b", FOLDER), ("head", "a/b/c", FILE)]
        whole = ("list", (("a", 3), ("a/b", 2), ("a/b/c", 1)))
        for records, told in [
                ([*heads, whole], None), ([*heads, whole, ("list", ())], None),
                ([*heads, ("list", (("a", 3), ("a/b/c", 1)))], "a/b/c"),
                ([*heads, ("list", (("a/b", 2), ("a/b/c", 1)))], "a/b"),
                ([*heads, whole, ("list", (("a", 4), ("a/b", 0), ("a/b/c", 2)))], "a/b/c"),
                ([*heads, whole, ("list", (("a", 0), ("a/b", 3), ("a/b/c", 2)))], "a/b"),
                ([*heads, whole, ("list", (("a/b/c", 2),))], "a/b/c"), ([*heads, whole, ("list", (("a", 4),))], None)]:
            expected = ("Barred", {"name": told}) if told else None
            self.assertEqual(raised(GuardedKeeper.opened, rules, "EL", book, Archive(records)), expected, records)

    def test_the_shown_entry_counts_even_if_it_is_not_the_newest(self):
        rules, book = [Rule.all_lists()], thin_book([Rule.all_lists()], "EL", "sure")[0]
        records = [("head", "a", FOLDER), ("head", "a", FILE), ("list", (("a", 2),)), ("head", "a/b", FILE),
                   ("list", (("a/b", 1),))]
        keeper = GuardedKeeper.opened(rules, "EL", book, Archive(records))
        self.assertEqual(keeper.tree(), {"a": FOLDER, "a/b": FILE})
        self.assertEqual(raised(keeper.attach, Archive([("head", "a", FILE), ("list", (("a", 1),))])),
                         ("Barred", {"name": "a/b"}))
        self.assertIsNone(raised(keeper.put, "a/c", FILE))

    def test_off_book_comes_first(self):
        # The table is not clean after the first list, and only later a name has strayed.
        rules = [Rule.last_list(), Rule.all_lists()]
        records = [("head", "a/b", FILE), ("list", (("a/b", 1),)), ("list", (("a/b", 2),)), ("list", ())]
        self.assertEqual(self.look_over(rules, "EL", [], records), ("OffBook", {"number": 4, "name": "a/b"}))
        self.assertEqual(self.look_over(rules, "EL", [], records[:3]), ("Barred", {"name": "a/b"}))

    def test_long_archives(self):
        rules, book = CHAIN[1:], thin_book(CHAIN[1:], "EL", "sure")[0]
        keeper = Keeper(rules, "EL", "sure", book)
        for number in range(400):
            keeper.put(f"d{number}", FOLDER)
            keeper.put(f"d{number}/f", FILE)
        for number in range(0, 400, 2):
            keeper.strike(f"d{number}/f")
            keeper.strike(f"d{number}")
        other = GuardedKeeper.opened(rules, "EL", book, keeper.archive)
        self.assertEqual(other.tree(), keeper.tree())
        keeper.strike("d1")
        self.assertEqual(raised(GuardedKeeper.opened, rules, "EL", book, keeper.archive), ("Barred", {"name": "d1/f"}))


class New(unittest.TestCase):
    def test_errors_in_their_order(self):
        for value in NO_RULES:
            self.assertEqual(raised(GuardedKeeper, value, "X", None), ("BadRules", {}))
            self.assertEqual(raised(GuardedKeeper.opened, value, "X", None, Archive([])), ("BadRules", {}))
        for value in NO_PLANS:
            self.assertEqual(raised(GuardedKeeper, CHAIN, value, None), ("BadPlan", {}))
            self.assertEqual(raised(GuardedKeeper.opened, CHAIN, value, None, Archive([])), ("BadPlan", {}))
        book = thin_book(CHAIN, "EL", "sure")[0]
        for value in [*VALUES, book[1:], tuple(book), [*book, book[-1]], verdict([Rule.waiting()], "EL", "done")[1]]:
            self.assertEqual(raised(GuardedKeeper, CHAIN, "EL", value), ("NoBook", {}))
            self.assertEqual(raised(GuardedKeeper.opened, CHAIN, "EL", value, Archive([("strike", "a")])),
                             ("NoBook", {}))

    def test_the_question_is_sure(self):
        book = thin_book([Rule.waiting()], "EL", "done")[0]
        self.assertIsNone(raised(Keeper, [Rule.waiting()], "EL", "done", book))
        self.assertEqual(raised(GuardedKeeper, [Rule.waiting()], "EL", book), ("NoBook", {}))

    def test_by_name(self):
        book = thin_book(CHAIN, "EL", "sure")[0]
        keeper = GuardedKeeper(book=book, plan="EL", rules=CHAIN)
        keeper.put("a", FOLDER)
        other = GuardedKeeper.opened(archive=keeper.archive, book=book, plan="EL", rules=CHAIN)
        self.assertIs(type(other), GuardedKeeper)
        self.assertEqual([other.tree(), other.position(name="a")], [keeper.tree(), keeper.position("a")])
        other.attach(archive=Archive([]))
        self.assertEqual(other.archive, keeper.archive)
        # Without records there is nothing that can be unclean.
        self.assertEqual(GuardedKeeper.opened(CHAIN, "EL", book, Archive([])).tree(), {})


if __name__ == "__main__":
    unittest.main()
