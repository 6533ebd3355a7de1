"""Points 3, 8 and 10 for twolistings.readers: sights step by step, tables, what rules show together, things."""

import inspect
import random
import unittest

from samples import (EVENTS, FILE, KNOWN, NO_RULES, VALUES, line_of, names_in, raised, random_records, random_rule,
                     state_after, table_by_lines)
from twolistings.archives import Archive
from twolistings.errors import NoPlace
from twolistings.readers import Sight, common, table_of, tables_along, things
from twolistings.rules import Rule


def some_rules(seed, count):
    """The known rules, and some others of one to three modes."""
    rng = random.Random(seed)
    return [*KNOWN.values(), *[random_rule(rng, 1 + k % 3) for k in range(count)]]


def seen(sight):
    return sight.mode, sight.shown, sight.kept


class Sights(unittest.TestCase):
    def test_in_the_beginning(self):
        for rule in some_rules(1, 3):
            self.assertEqual(seen(Sight(rule)), (0, 0, 0))

    def test_what_the_interface_lists_is_defined_in_the_class(self):
        for name in ("__init__", "mode", "shown", "kept", "see"):
            self.assertIn(name, vars(Sight))
        for name in ("mode", "shown", "kept"):
            self.assertIsInstance(vars(Sight)[name], property)
        for value in (Sight, table_of, tables_along, common, things):
            self.assertEqual(value.__module__, "twolistings.readers")

    def test_heads_step_by_step(self):
        sight = Sight(Rule.heads())
        for told, shown in [(("head", 1), 1), (("other",), 1), (("named", 1), 1), (("struck",), 1), (("absent",), 1),
                            (("head", 6), 6), (("named", 1), 6), (("strike",), 0), (("named", 6), 0), (("head", 9), 9)]:
            self.assertIsNone(sight.see(*told))
            self.assertEqual(seen(sight), (0, shown, 0))

    def test_checking_step_by_step(self):
        sight = Sight(Rule.checking())
        for told, shown, kept in [
                (("head", 2), 0, 2), (("struck", 0), 0, 2), (("named", 2), 2, 2), (("head", 5), 2, 5),
                (("named", 2), 2, 5), (("strike", 0), 2, 0), (("absent", 0), 2, 0), (("struck", 0), 0, 0)]:
            self.assertIsNone(sight.see(*told))
            self.assertEqual(seen(sight), (0, shown, kept))

    def test_primed_step_by_step(self):
        sight = Sight(Rule.primed())
        for told, mode, shown, kept in [
                (("head", 1), 0, 0, 0), (("named", 1), 1, 0, 0), (("head", 3), 0, 0, 3), (("other", 0), 0, 0, 3),
                (("named", 1), 1, 0, 3), (("other", 0), 0, 0, 3), (("named", 3), 1, 3, 3), (("strike", 0), 0, 3, 0),
                (("strike", 0), 0, 3, 0), (("absent", 0), 1, 3, 0), (("struck", 0), 1, 0, 0)]:
            self.assertIsNone(sight.see(*told))
            self.assertEqual(seen(sight), (mode, shown, kept))

    def test_each_event_by_the_rows_of_rules(self):
        rng = random.Random(2)
        for rule in some_rules(3, 60):
            sight, state, heads = Sight(rule), (0, 0, 0), []
            for number in range(1, 40):
                event = rng.choice(EVENTS if heads else ["head", "strike", "other", "absent"])
                entry = {"head": number, "named": rng.choice(heads) if heads else 0}.get(event, 0)
                if event == "head":
                    heads.append(number)
                state = state_after(rule, state, event, entry)
                self.assertIsNone(sight.see(event, entry) if rng.random() < 0.5 or entry else sight.see(event))
                self.assertEqual(seen(sight), state)

    def test_an_event_without_a_row_changes_nothing(self):
        rule = Rule([[[((), 1, "n", "k")], [], [], [], [], []], [[((), 1, "s", "n")], [], [], [], [], []]])
        sight = Sight(rule)
        sight.see("head", 1)
        sight.see("head", 2)
        for event in EVENTS[1:]:
            sight.see(event, 1 if event == "named" else 0)
            self.assertEqual(seen(sight), (1, 1, 2))

    def test_sights_of_one_rule_are_apart(self):
        rule = Rule.heads()
        one, other = Sight(rule), Sight(rule)
        one.see("head", 1)
        self.assertEqual([seen(one), seen(other)], [(0, 1, 0), (0, 0, 0)])

    def test_no_event(self):
        for told, mode in [([], 0), ([("absent", 0)], 1), ([("absent", 0), ("head", 2)], 0)]:
            sight = Sight(Rule.primed())
            for event, entry in told:
                sight.see(event, entry)
            before = seen(sight)
            self.assertEqual(before[0], mode)
            for value in [*VALUES, "heads", "Head", "list", "strik", 3, ["head"], ("named",), "rest", "n"]:
                if value != "head":
                    for given in ((value,), (value, 7)):
                        with self.subTest(value):
                            with self.assertRaises(NoPlace) as held:
                                sight.see(*given)
                            place = held.exception.place
                            self.assertEqual([type(place), len(place), place[0], type(place[0])], [tuple, 2, mode, int])
                            self.assertIs(place[1], value)
                            self.assertEqual(seen(sight), before)

    def test_by_name(self):
        sight = Sight(rule=Rule.heads())
        sight.see(entry=4, event="head")
        sight.see(event="other")
        self.assertEqual(seen(sight), (0, 4, 0))
        self.assertEqual(inspect.signature(Sight.see).parameters["entry"].default, 0)


class Tables(unittest.TestCase):
    def check(self, rule, records):
        """What the interface says of the tables of a rule for the archive of such records and its beginnings."""
        archive = Archive(records)
        self.assertEqual(table_of(rule, archive), table_by_lines(rule, records))
        along = tables_along(rule, archive)
        self.assertTrue(inspect.isgenerator(along))
        tables = list(along)
        self.assertEqual(len(tables), len(records) + 1)
        for number, table in enumerate(tables):
            self.assertIs(type(table), dict)
            self.assertEqual(table, table_by_lines(rule, records[:number]))

    def test_each_known_rule(self):
        rng = random.Random(10)
        for name, rule in KNOWN.items():
            for size in (0, 1, 2, 5, 12, 30):
                with self.subTest(name, size=size):
                    self.check(rule, random_records(rng, size, ["a", "b", "a/b", "c"]))

    def test_rules_of_one_to_three_modes(self):
        rng = random.Random(11)
        for number in range(150):
            rule = random_rule(rng, 1 + number % 3, 4)
            with self.subTest(rule.modes):
                self.check(rule, random_records(rng, rng.randrange(25), ["a", "b", "c", "d", "e"]))

    def test_each_rule_by_hand(self):
        archive = Archive([
            ("head", "a", FILE), ("list", (("a", 1),)), ("list", (("a", 2),)), ("head", "b", FILE), ("strike", "a"),
            ("list", (("b", 2),)), ("list", (("a", 0), ("b", 3))), ("list", ())])
        wanted = {
            "heads": [{}, {"a": 1}, {"a": 1}, {"a": 1}, {"a": 1, "b": 4}, {"b": 4}, {"b": 4}, {"b": 4}, {"b": 4}],
            "last_list": [{}, {}, {"a": 1}, {"a": 1}, {"a": 1}, {"a": 1}, {"b": 4}, {"b": 4}, {}],
            "all_lists": [{}, {}, {"a": 1}, {"a": 1}, {"a": 1}, {"a": 1}, {"a": 1, "b": 4}, {"b": 4}, {"b": 4}],
            "waiting": [{}, {}, {"a": 1}, {"a": 1}, {"a": 1}, {"a": 1}, {"b": 4}, {"b": 4}, {"b": 4}],
            "checking": [{}, {}, {"a": 1}, {"a": 1}, {"a": 1}, {"a": 1}, {"a": 1, "b": 4}, {"b": 4}, {"b": 4}],
            "twice": [{}, {}, {}, {"a": 1}, {"a": 1}, {"a": 1}, {"a": 1}, {"a": 1, "b": 4}, {"a": 1, "b": 4}],
            "primed": [{}, {}, {}, {}, {}, {}, {"b": 4}, {"b": 4}, {"b": 4}],
        }
        for name, tables in wanted.items():
            self.assertEqual(list(tables_along(KNOWN[name], archive)), tables, name)
            self.assertEqual(table_of(KNOWN[name], archive), tables[-1], name)

    def test_what_stands_ahead_of_the_first_record_of_a_name_counts(self):
        # The first list primes the rule for the head behind it, and only for this one.
        records = [("list", ()), ("head", "b", FILE), ("list", (("b", 1),)), ("head", "a", FILE), ("head", "c", FILE)]
        records.append(("list", (("a", 2), ("b", 4), ("c", 1))))
        self.assertEqual(table_of(Rule.primed(), Archive(records)), {"a": 4, "b": 2})

    def test_strikes_alone_show_nothing(self):
        archive = Archive([("strike", "a"), ("list", ()), ("strike", "a")])
        for rule in KNOWN.values():
            self.assertEqual(list(tables_along(rule, archive)), [{}, {}, {}, {}])

    def test_names_that_come_to_one_state_by_two_ways(self):
        # The kept entry of one name is the shown one of the other, and both are shown again later on.
        rule = Rule([[
            [((), 0, "s", "n")], [], [((("s", "==", "o"),), 0, "k", "o")], [((), 0, "o", "x")], [], [((), 0, "k", "s")],
        ]])
        records = [
            ("head", "a", FILE), ("head", "b", FILE), ("list", (("a", 2),)), ("strike", "c"), ("list", (("b", 3),)),
            ("head", "d", FILE), ("list", ()), ("list", ()), ("strike", "d"), ("list", (("a", 9),))]
        self.check(rule, records)

    def test_each_table_is_new(self):
        archive = Archive([("head", "a", FILE), ("strike", "b"), ("strike", "b")])
        tables = []
        for table in tables_along(Rule.heads(), archive):
            tables.append(dict(table))
            table["a"] = 9
            table["z"] = 1
        self.assertEqual(tables, [{}, {"a": 1}, {"a": 1}, {"a": 1}])
        kept = list(tables_along(Rule.heads(), archive))
        self.assertEqual(len({id(table) for table in kept}), 4)
        table_of(Rule.heads(), archive).clear()
        self.assertEqual(table_of(Rule.heads(), archive), {"a": 1})

    def test_two_generators_are_apart(self):
        archive = Archive([("head", "a", FILE), ("strike", "a"), ("head", "a", FILE)])
        one, other = tables_along(Rule.heads(), archive), tables_along(Rule.heads(), archive)
        told = [next(one), next(one), next(other), next(one), next(other), next(one), next(other)]
        self.assertEqual(told, [{}, {"a": 1}, {}, {}, {"a": 1}, {"a": 3}, {}])
        self.assertEqual([list(one), list(other)], [[], [{"a": 3}]])

    def test_by_name(self):
        archive = Archive([("head", "a", FILE)])
        self.assertEqual(table_of(archive=archive, rule=Rule.heads()), {"a": 1})
        self.assertEqual(list(tables_along(archive=archive, rule=Rule.heads())), [{}, {"a": 1}])
        self.assertEqual(common(archive=archive, rules=[Rule.heads()]), ("yes", {"a": 1}))
        self.assertEqual(things(table={"a": 1}, archive=archive), {"a": FILE})

    def test_long_archives(self):
        names = ["n" + str(number) for number in range(6000)]
        archive = Archive([("head", name, FILE) for name in names] + [("list", ())] * 3)
        self.assertEqual(table_of(Rule.heads(), archive), {name: at for at, name in enumerate(names, start=1)})
        self.assertEqual(table_of(Rule.waiting(), archive), table_of(Rule.heads(), archive))
        self.assertEqual(table_of(Rule.last_list(), archive), {})


class Common(unittest.TestCase):
    def test_example(self):
        archive = Archive([("head", "a", ("file", "x")), ("list", (("a", 1),)), ("head", "a", ("file", "y"))])
        told = [table_of(Rule.heads(), archive), list(tables_along(Rule.last_list(), archive)),
                common([Rule.heads(), Rule.last_list()], archive)]
        self.assertEqual(told, [{"a": 3}, [{}, {}, {"a": 1}, {"a": 1}], ("no", "a")])

    def test_one_to_three_rules(self):
        rng = random.Random(20)
        answers = {"yes": 0, "no": 0}
        rules = some_rules(21, 6)
        for _ in range(400):
            records = random_records(rng, rng.randrange(9), ["b", "a", "c", "a/b"])
            chosen = [rng.choice(rules) for _ in range(rng.choice([1, 2, 2, 3]))]
            tables = [table_by_lines(rule, records) for rule in chosen]
            parted = [name for name in names_in(records) if len({table.get(name) for table in tables}) > 1]
            told = common(chosen, Archive(records))
            self.assertEqual(told, ("no", min(parted)) if parted else ("yes", tables[0]))
            self.assertIs(type(told), tuple)
            answers[told[0]] += 1
        self.assertGreater(min(answers.values()), 50)

    def test_the_least_name(self):
        records = [("head", name, FILE) for name in ("c", "a", "b", "a/z", "Z")] + [("list", (("Z", 1), ("a", 4)))]
        archive = Archive(records)
        self.assertEqual(common([Rule.heads(), Rule.all_lists()], archive), ("no", "a/z"))
        self.assertEqual(common([Rule.all_lists(), Rule.heads()], archive), ("no", "a/z"))
        self.assertEqual(common([Rule.all_lists(), Rule.last_list(), Rule.heads()], archive), ("no", "a/z"))
        self.assertEqual(common([Rule.all_lists(), Rule.checking()], archive), ("yes", {"Z": 5, "a": 2}))

    def test_two_entries_of_a_name_part_rules(self):
        archive = Archive([("head", "a", FILE), ("head", "a", FILE), ("list", (("a", 2),))])
        self.assertEqual(common([Rule.heads(), Rule.last_list()], archive), ("no", "a"))

    def test_one_rule_shows_the_same(self):
        archive = Archive([("head", "a", FILE)])
        for rule in KNOWN.values():
            self.assertEqual(common([rule], archive), ("yes", table_of(rule, archive)))

    def test_the_table_is_new(self):
        archive = Archive([("head", "a", FILE)])
        common([Rule.heads()], archive)[1].clear()
        self.assertEqual(common([Rule.heads()], archive), ("yes", {"a": 1}))

    def test_bad_rules(self):
        archive = Archive([("head", "a", FILE)])
        for value in NO_RULES:
            with self.subTest(value):
                self.assertEqual(raised(common, value, archive), ("BadRules", {}))


class Things(unittest.TestCase):
    def test_things_of_tables(self):
        archive = Archive([
            ("head", "a", ("folder",)), ("head", "b", FILE), ("strike", "a"), ("head", "a", ("link", "b"))])
        self.assertEqual(things(archive, {}), {})
        self.assertEqual(things(archive, {"a": 1, "b": 2}), {"a": ("folder",), "b": FILE})
        self.assertEqual(things(archive, {"a": 4}), {"a": ("link", "b")})

    def test_of_what_readers_show(self):
        rng = random.Random(30)
        for rule in KNOWN.values():
            records = random_records(rng, 30, ["a", "b", "c"])
            table = table_of(rule, Archive(records))
            told = things(Archive(records), table)
            self.assertEqual(told, {name: records[entry - 1][2] for name, entry in table.items()})
            self.assertIs(type(told), dict)
            told.clear()
            self.assertEqual(len(things(Archive(records), table)), len(table))

    def test_lines_of_the_samples(self):
        # The tables of these tests stand on the lines of samples.py; they are those of the archives.
        records = random_records(random.Random(31), 40, ["a", "b"])
        self.assertEqual(Archive(records).line("a"), line_of(records, "a"))


if __name__ == "__main__":
    unittest.main()
