"""Points 3, 17, 23, 27 and 28 for twolistings.keepers: keepers, what they write, open and attach."""

import itertools
import random
import unittest

from plays import (QUESTIONS, edited_by_words, list_by_words, place_by_lines, some_rules, start_by_words,
                   stray_by_words)
from samples import (FILE, KNOWN, NO_PLANS, NO_QUESTIONS, NO_RULES, VALUES, names_in, raised, random_records,
                     table_by_lines)
from twolistings.archives import Archive
from twolistings.books import verdict
from twolistings.keepers import Keeper
from twolistings.least import greatest_book, thin_book
from twolistings.readers import things
from twolistings.rules import Rule

FOLDER = ("folder",)
NAMES = ["a", "a/b", "b", "c d", "z/z/z"]
THINGS = [FOLDER, FILE, ("file", "x"), ("link", "b")]
CHAIN = [Rule.last_list(), Rule.all_lists(), Rule.checking()]
NO_NAMES = [*[value for value in VALUES if type(value) is not str], "", "/", "a//b", ".", "a/..", "\n", "a" * 61]
NO_THINGS = [*VALUES, ("folder", ""), ["folder"], ("file",), ("file", None), ("file", "\n"), ("file", "x" * 201),
             ("link", ""),
             ("link", "a//b"), ("Folder",), ("file", "x", "y"), "folder", ("head", "a", FOLDER)]


def games(seed, count):
    """Rules, a plan, a question and a book, so many: known rules alone, known ones together, and drawn ones in turn."""
    rng, found = random.Random(seed), 0
    alone = [([KNOWN[name]], plan, question) for name, plan in [
        ("heads", "E"), ("last_list", "EL"), ("all_lists", "ELL"), ("checking", "EL"), ("twice", "ELL"),
        ("primed", "LEL"), ("heads", "LEL"), ("waiting", "EL")] for question in QUESTIONS]
    pairs = itertools.combinations(["last_list", "all_lists", "checking"], 2)
    together = [([KNOWN[name] for name in names], "EL", question) for names in pairs for question in QUESTIONS]
    together += [(CHAIN, "EL", "sure"), (CHAIN, "LEL", "done"), ([KNOWN["primed"], KNOWN["checking"]], "LEL", "sure")]
    drawn = [(rules, rng.choice(["E", "EL", "LE", "LEL", "ELL"]), QUESTIONS[number % 3])
             for number, rules in enumerate(some_rules(seed, 99))]
    drawn = [game for game in drawn if verdict(*game)[0] == "yes"]
    for game in [game for turn in zip(rng.sample(alone, 12), rng.sample(together, 12), drawn) for game in turn]:
        if found < count and verdict(*game)[0] == "yes":
            found += 1
            yield (*game, rng.choice([greatest_book(*game), thin_book(*game)[0]]))


def opened_rests(book):
    return [position for position, _ in book if position[0] == "rest"]


class Histories(unittest.TestCase):
    def look_over(self, keeper, rules, records):
        """A keeper against records: its archive, its tables and its positions."""
        self.assertEqual(keeper.archive.records, records)
        table = table_by_lines(rules[0], records)
        self.assertEqual(keeper.table(), table)
        self.assertEqual(keeper.tree(), things(Archive(records), table))
        for name in [*NAMES, "no name of it"]:
            self.assertEqual(keeper.position(name), place_by_lines(rules, records, name))

    def some_edit(self, rng, keeper, plan):
        """An edit of a keeper, as edited_by_words takes it."""
        role, name = rng.choice(["put", "put", "strike", "mend"]), rng.choice(NAMES)
        steps = rng.choice([None, *range(1, len(plan) + 1)])
        if role == "put":
            thing = rng.choice(THINGS)
            self.assertIsNone(keeper.put(name, thing, steps=steps))
            return role, name, ("head", name, thing), steps
        if role == "strike":
            self.assertIsNone(keeper.strike(name, steps=steps))
            return role, name, ("strike", name), steps
        self.assertIsNone(keeper.mend())
        return role, None, None, None

    def test_puts_strikes_and_mends_whole_and_stopped(self):
        rng = random.Random(101)
        for rules, plan, question, book in games(101, 24):
            keeper, records, words = Keeper(rules, plan, question, book), [], dict(book)
            self.look_over(keeper, rules, records)
            for _ in range(14):
                edit = self.some_edit(rng, keeper, plan)
                records = edited_by_words(rules, plan, words, records, *edit)
                self.look_over(keeper, rules, records)

    def test_cuts(self):
        rng = random.Random(102)
        for rules, plan, question, book in games(102, 15):
            keeper, records, words = Keeper(rules, plan, question, book), [], dict(book)
            for _ in range(12):
                edit = self.some_edit(rng, keeper, plan)
                records = edited_by_words(rules, plan, words, records, *edit)
                if rng.random() < 0.4:
                    number = rng.randrange(len(records) + 1)
                    self.assertIsNone(keeper.cut(number))
                    records = records[:number]
                    self.look_over(keeper, rules, records)
            self.look_over(keeper, rules, records)

    def test_opened_and_copied_keepers_go_on_by_themselves(self):
        rng = random.Random(103)
        for rules, plan, question, book in games(103, 15):
            keeper, words = Keeper(rules, plan, question, book), dict(book)
            for _ in range(6):
                self.some_edit(rng, keeper, plan)
            records = keeper.archive.records
            others = [keeper.copy(), Keeper.opened(rules, plan, question, book, keeper.archive), keeper]
            for other in others:
                self.assertIs(type(other), Keeper)
                self.look_over(other, rules, records)
            written = [records, records, records]
            for _ in range(8):
                at = rng.randrange(3)
                edit = self.some_edit(rng, others[at], plan)
                written[at] = edited_by_words(rules, plan, words, written[at], *edit)
            for other, told in zip(others, written):
                self.look_over(other, rules, told)

    def test_an_archive_that_was_told_stays(self):
        keeper = Keeper(CHAIN, "EL", "sure", thin_book(CHAIN, "EL", "sure")[0])
        told = [keeper.archive]
        keeper.put("a", FILE)
        told.append(keeper.archive)
        keeper.mend()
        told.append(keeper.archive)
        keeper.cut(1)
        told.append(keeper.archive)
        keeper.attach(Archive([("strike", "b")]))
        told.append(keeper.archive)
        self.assertEqual([len(archive) for archive in told], [0, 2, 3, 1, 2])
        table, tree = keeper.table(), keeper.tree()
        table["a"] = tree["a"] = 5
        keeper.archive.records.clear()
        self.assertEqual([keeper.table(), keeper.tree(), len(keeper.archive)], [{}, {}, 2])

    def test_what_is_handed_in_may_change_later(self):
        rules, book = [Rule.all_lists()], thin_book([Rule.all_lists()], "EL", "sure")[0]
        keeper = Keeper(rules, "EL", "sure", book)
        rules[0] = Rule.heads()
        rules.append(Rule.heads())
        book.clear()
        keeper.put("a", FILE)
        keeper.cut(2)
        twin = keeper.copy()
        twin.strike("a")
        self.assertEqual([keeper.table(), twin.table(), keeper.position("a")],
                         [{"a": 1}, {}, ("rest", 0, 1, 1, ((0, 0),))])

    def test_the_first_of_the_sayings_is_said(self):
        rules = [Rule.all_lists()]
        book = greatest_book(rules, "EL", "sure")
        self.assertGreater(max(len(words) for _, words in book), 2)
        keeper = Keeper(rules, "EL", "sure", book)
        keeper.put("a", FILE)
        keeper.put("b", FILE)
        self.assertEqual(keeper.archive.records[2:], [("head", "b", FILE), ("list", (("b", 1),))])
        louder = [(position, words[-1:]) for position, words in book]
        keeper = Keeper(rules, "EL", "sure", louder) if raised(Keeper, rules, "EL", "sure", louder) is None else None
        if keeper:
            keeper.put("a", FILE)
            keeper.put("b", FILE)
            self.assertEqual(keeper.archive.records[3], ("list", (("a", 3), ("b", 1))))

    def test_items_are_ascending_by_name(self):
        keeper = Keeper([Rule.last_list()], "EL", "sure", thin_book([Rule.last_list()], "EL", "sure")[0])
        for name in ["b", "a/b", "c", "a", "B", "a b", "a.b"]:
            keeper.put(name, FILE)
        names = [name for name, _ in keeper.archive[14][1]]
        self.assertEqual(names, ["B", "a", "a b", "a.b", "a/b", "b", "c"])

    def test_long_histories(self):
        rng = random.Random(104)
        book = thin_book(CHAIN, "EL", "sure")[0]
        keeper, names = Keeper(CHAIN, "EL", "sure", book), [f"n{number}" for number in range(60)]
        for _ in range(1200):
            keeper.put(rng.choice(names), FILE, steps=rng.choice([1, 2])) if rng.random() < 0.6 else keeper.strike(
                rng.choice(names), steps=rng.choice([1, None]))
        archive = keeper.archive
        self.assertGreater(len(archive), 1500)
        self.assertEqual(keeper.table(), table_by_lines(CHAIN[2], archive.records))
        keeper.attach(archive.cut(0))
        other = Keeper.opened(CHAIN, "EL", "sure", book, archive)
        self.assertEqual([other.table(), other.archive], [keeper.table(), archive])
        for name in names:
            self.assertEqual(other.position(name), keeper.position(name))


class Examples(unittest.TestCase):
    def test_example(self):
        rules = [Rule.all_lists()]
        keeper = Keeper(rules, "EL", "sure", thin_book(rules, "EL", "sure")[0])
        keeper.put("a", FOLDER)
        keeper.put("b", ("file", "x"), steps=1)
        keeper.strike("a")
        self.assertEqual(keeper.archive.records,
                         [("head", "a", FOLDER), ("list", (("a", 1),)), ("head", "b", ("file", "x")),
                                                  ("strike", "a"), ("list", (("a", 0),))])
        self.assertEqual([keeper.table(), keeper.position("b")], [{}, ("rest", 0, 0, 1, ((0, 0),))])

    def test_where_the_interface_is_defined(self):
        self.assertEqual(Keeper.__module__, "twolistings.keepers")
        for name in ["__init__", "opened", "put", "strike", "mend", "cut", "attach", "archive", "table", "tree",
                     "position",
                     "copy"]:
            self.assertIn(name, vars(Keeper))
        self.assertIs(type(Keeper.archive), property)

    def test_steps_by_name_alone(self):
        keeper = Keeper([Rule.heads()], "E", "sure", thin_book([Rule.heads()], "E", "sure")[0])
        with self.assertRaises(TypeError):
            keeper.put("a", FILE, 1)
        with self.assertRaises(TypeError):
            keeper.strike("a", 1)
        keeper.put(steps=1, thing=FILE, name="a")
        keeper.strike(name="a", steps=None)
        self.assertEqual(keeper.archive.records, [("head", "a", FILE), ("strike", "a")])
        keeper.cut(number=1)
        self.assertEqual(keeper.position(name="a"), ("rest", 0, 1, 1, ((0, 0),)))
        keeper.attach(archive=Archive([("strike", "b")]))
        given = {"rules": [Rule.heads()], "plan": "E", "question": "sure",
                 "book": thin_book([Rule.heads()], "E", "sure")[0]}
        self.assertEqual(Keeper(**given).archive, Archive([]))
        self.assertEqual(Keeper.opened(archive=keeper.archive, **given).table(), {"a": 1})

    def test_a_strike_of_a_name_that_never_had_a_head(self):
        keeper = Keeper(CHAIN, "EL", "sure", thin_book(CHAIN, "EL", "sure")[0])
        keeper.strike("a")
        self.assertEqual([keeper.archive.records, keeper.table()], [[("strike", "a"), ("list", ())], {}])


class Attached(unittest.TestCase):
    def look_over(self, rules, plan, question, book, own, other):
        """Attaches an archive to a keeper of an own one; returns what is raised, after a look by words."""
        keeper = Keeper.opened(rules, plan, question, book, Archive(own))
        rests, whole = opened_rests(book), own + other.records
        expected = None
        for size in range(len(own) + 1, len(whole) + 1):
            name = stray_by_words(rules, rests, whole[:size])
            if name is not None:
                expected = ("OffBook", {"number": size, "name": name})
                break
        self.assertEqual(raised(keeper.attach, other), expected)
        kept = own if expected else whole
        self.assertEqual(keeper.archive.records, kept)
        self.assertEqual(keeper.table(), table_by_lines(rules[0], kept))
        for name in NAMES:
            self.assertEqual(keeper.position(name), place_by_lines(rules, kept, name))
        keeper.put("a", FILE)
        self.assertEqual(keeper.archive.records,
                         edited_by_words(rules, plan, dict(book), kept, "put", "a", ("head", "a", FILE), None))
        return expected

    def own_records(self, rng, rules, plan, question, book):
        keeper = Keeper(rules, plan, question, book)
        for _ in range(rng.randrange(4)):
            keeper.put(rng.choice(NAMES), FILE, steps=rng.choice([None, 1]))
            keeper.strike(rng.choice(NAMES), steps=rng.choice([None, 1]))
        return keeper.archive.records

    def test_drawn_archives(self):
        rng, found = random.Random(105), []
        for rules, plan, question, book in games(105, 20):
            for _ in range(4):
                own = self.own_records(rng, rules, plan, question, book)
                other = Archive(random_records(rng, rng.randrange(4, 14), rng.sample(NAMES, 2)))
                found.append(self.look_over(rules, plan, question, book, own, other))
        self.assertGreater(found.count(None), 10)
        self.assertGreater(len(found) - found.count(None), 10)

    def test_archives_of_other_keepers(self):
        rng, found = random.Random(106), []
        for rules, plan, question, book in games(107, 20):
            own = self.own_records(rng, rules, plan, question, book)
            other = self.own_records(rng, rules, plan, question, book)
            found.append(self.look_over(rules, plan, question, book, own, Archive(other)))
        self.assertGreater(found.count(None), 5)

    def test_opened_archives(self):
        rng, found = random.Random(108), []
        for rules, plan, question, book in games(109, 20):
            for _ in range(3):
                records = random_records(rng, rng.randrange(3, 14), rng.sample(NAMES, 2))
                strays = [stray_by_words(rules, opened_rests(book), records[:number])
                          for number in range(1, len(records) + 1)]
                at = [number for number, name in enumerate(strays, start=1) if name is not None]
                expected = ("OffBook", {"number": at[0], "name": strays[at[0] - 1]}) if at else None
                found.append(raised(Keeper.opened, rules, plan, question, book, Archive(records)))
                self.assertEqual(found[-1], expected)
                if expected is None:
                    self.assertEqual(Keeper.opened(rules, plan, question, book, Archive(records)).archive.records,
                                     records)
        self.assertGreater(min(found.count(None), len(found) - found.count(None)), 5)

    def test_the_first_record_and_the_least_name(self):
        rules = [Rule.last_list(), Rule.all_lists()]
        book = thin_book(rules, "EL", "sure")[0]
        heads = [("head", name, FILE) for name in ("c", "b", "a")]
        archive = Archive([*heads, ("list", (("b", 2), ("c", 3))), ("list", ()), ("list", ())])
        self.assertEqual(raised(Keeper.opened, rules, "EL", "sure", book, archive),
                         ("OffBook", {"number": 5, "name": "b"}))
        keeper = Keeper(rules, "EL", "sure", book)
        keeper.put("aa", FILE)
        keeper.put("d", FILE, steps=1)
        # The own name is struck by silence in the list of the archive that is attached.
        self.assertEqual(raised(keeper.attach, archive), ("OffBook", {"number": 7, "name": "aa"}))
        self.assertEqual(len(keeper.archive), 3)
        self.assertIsNone(keeper.attach(archive.cut(3)))
        self.assertEqual([len(keeper.archive), keeper.table()], [6, {"aa": 1}])

    def test_a_name_that_does_not_occur(self):
        # With the plan "LE" a list stands between each two records that are none, and the third mode is not met.
        nothing = [[((), 0, "s", "k")], [((), 0, "s", "k")], [((), 1, "s", "k")], [], [], []]
        second = [[((), 0, "s", "k")], [((), 0, "s", "k")], [((), 2, "s", "k")]] + [[((), 0, "s", "k")]] * 3
        rules = [Rule([nothing, second, [[], [], [], [], [], []]])]
        book = thin_book(rules, "LE", "same")[0]
        self.assertNotIn(2, [position[4][0][0] for position, _ in book])
        one, two, three = [("head", name, FILE) for name in "abc"]

        def told(records):
            return raised(Keeper.opened, rules, "LE", "same", book, Archive(records))
        self.assertIsNone(told([one, ("list", ()), two]))
        self.assertEqual(told([one, two]), ("OffBook", {"number": 2, "name": ""}))
        self.assertEqual(told([("strike", "a"), ("strike", "b")]), ("OffBook", {"number": 2, "name": ""}))
        self.assertEqual(told([one, ("list", ()), two, three]), ("OffBook", {"number": 4, "name": "a"}))
        self.assertEqual(told([("list", ()), two, ("list", ()), ("strike", "c"), one]),
                         ("OffBook", {"number": 5, "name": "b"}))
        keeper = Keeper.opened(rules, "LE", "same", book, Archive([one]))
        self.assertEqual(raised(keeper.attach, Archive([two])), ("OffBook", {"number": 2, "name": ""}))
        self.assertIsNone(keeper.attach(Archive([("list", ()), two])))

    def test_struck_names_occur(self):
        rules = [Rule.all_lists().changed(0, "strike", [((), 0, "s", "k")])]
        book = thin_book(rules, "EL", "sure")[0]
        keeper = Keeper.opened(rules, "EL", "sure", book, Archive([("strike", "b"), ("strike", "a")]))
        self.assertEqual([keeper.position("a"), keeper.table()], [start_by_words(rules), {}])


class Errors(unittest.TestCase):
    def setUp(self):
        self.book = thin_book(CHAIN, "EL", "sure")[0]
        self.keeper = Keeper(CHAIN, "EL", "sure", self.book)
        self.keeper.put("a", FOLDER)
        self.keeper.put("b", FILE, steps=1)

    def check(self, call, told, *given, **named):
        """A call that raises an error and changes nothing."""
        before = (self.keeper.archive, self.keeper.table(), self.keeper.tree(), self.keeper.position("b"))
        self.assertEqual(raised(call, *given, **named), told, (given, named))
        self.assertEqual((self.keeper.archive, self.keeper.table(), self.keeper.tree(), self.keeper.position("b")),
                         before)

    def test_new_and_opened_keepers(self):
        for value in NO_RULES:
            self.assertEqual(raised(Keeper, value, "X", "none", None), ("BadRules", {}))
            self.assertEqual(raised(Keeper.opened, value, "X", "none", None, Archive([])), ("BadRules", {}))
        for value in NO_PLANS:
            self.assertEqual(raised(Keeper, CHAIN, value, "none", None), ("BadPlan", {}))
            self.assertEqual(raised(Keeper.opened, CHAIN, value, "none", None, Archive([])), ("BadPlan", {}))
        for value in NO_QUESTIONS:
            for call, given in ((Keeper, (CHAIN, "EL", value, None)),
                                (Keeper.opened, (CHAIN, "EL", value, None, Archive([])))):
                name, told = raised(call, *given)
                self.assertEqual([name, list(told)], ["NoQuestion", ["word"]])
                self.assertIs(told["word"], value)

    def test_no_book(self):
        stray = Archive([("head", "a", FILE), ("list", (("a", 1),)), ("list", ())])
        for value in [*VALUES, self.book[1:], self.book[:-1], tuple(self.book), dict(self.book),
                      [*self.book, self.book[0]],
                      [*self.book, None]]:
            self.assertEqual(raised(Keeper, CHAIN, "EL", "sure", value), ("NoBook", {}))
            self.assertEqual(raised(Keeper.opened, CHAIN, "EL", "sure", value, stray), ("NoBook", {}))
        self.assertEqual(raised(Keeper, CHAIN, "ELL", "sure", self.book), ("NoBook", {}))
        self.assertEqual(raised(Keeper, CHAIN[:2], "EL", "sure", self.book), ("NoBook", {}))
        self.assertEqual(raised(Keeper.opened, CHAIN, "EL", "sure", self.book, stray)[0], "OffBook")

    def test_bad_names_then_bad_things_then_bad_steps(self):
        for value in NO_NAMES:
            for thing, steps in ((FILE, None), (None, 0), (FILE, 3)):
                self.check(self.keeper.put, ("BadName", {}), value, thing, steps=steps)
                self.check(self.keeper.strike, ("BadName", {}), value, steps=steps)
            self.check(self.keeper.position, ("BadName", {}), value)
        for value in NO_THINGS:
            for steps in (None, 1, 0, "1"):
                self.check(self.keeper.put, ("BadThing", {}), "a", value, steps=steps)
        allowed = [value for value in VALUES if value is None or type(value) is int and 1 <= value <= 2]
        for value in [value for value in VALUES if not any(value is other for other in allowed)] + [3]:
            self.check(self.keeper.put, ("BadSteps", {}), "a", FILE, steps=value)
            self.check(self.keeper.strike, ("BadSteps", {}), "a", steps=value)

    def test_no_record(self):
        for value in [*VALUES, 4, -1, "1", 1.0]:
            if type(value) is not int or not 0 <= value <= 3:
                name, told = raised(self.keeper.cut, value)
                self.assertEqual([name, list(told)], ["NoRecord", ["number"]])
                self.assertIs(told["number"], value)
                self.check(self.keeper.cut, (name, told), value)
        for value in (3, 2, 2, 0, 0):
            self.assertIsNone(self.keeper.cut(value))
            self.assertEqual(len(self.keeper.archive), value)

    def test_off_book(self):
        archive = Archive([("strike", "q"), ("list", ())])
        self.check(self.keeper.attach, ("OffBook", {"number": 5, "name": "a"}), archive)
        self.keeper.put("c", FILE)
        self.assertEqual(self.keeper.table(), {"a": 1, "c": 4})

    def test_the_tests_own_lists(self):
        # The list by words, for once against one that is written down.
        records = [("head", "b", FILE), ("list", (("b", 1),)), ("head", "a", FILE)]
        told = list_by_words(CHAIN, dict(self.book), records, "put", "a", 1)
        self.assertEqual(told, ("list", (("a", 1), ("b", 3))))
        self.assertEqual(names_in(records), ["a", "b"])


if __name__ == "__main__":
    unittest.main()
