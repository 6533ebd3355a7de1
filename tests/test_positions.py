"""Points 3, 11 to 14, 27 and 28 for twolistings.positions: positions, demands, stops, sayings and steps."""

import itertools
import random
import unittest

from plays import (PLANS, QUESTIONS, ROLES, THREE_MODES, all_positions, due, is_position_by_words, position_by_words,
                   record_by_words, sayings_by_words, some_rules, step_by_words)
from samples import (FILE, NO_PLANS, NO_QUESTIONS, NO_RULES, VALUES, line_of, names_in, raised, random_records,
                     state_behind)
from twolistings.archives import Archive
from twolistings.errors import BadSaying, Parted
from twolistings.positions import demanded, is_position, position_of, sayings, start, step, stopped
from twolistings.rules import Rule

class Start(unittest.TestCase):
    def test_the_start(self):
        self.assertEqual(start([Rule.heads()]), ("rest", 0, 0, 0, ((0, 0),)))
        self.assertEqual(start([Rule.primed(), Rule.heads()]), ("rest", 0, 0, 0, ((0, 0), (0, 0))))
        self.assertEqual(start(rules=[Rule.heads()] * 3), ("rest", 0, 0, 0, ((0, 0), (0, 0), (0, 0))))

    def test_it_is_a_position_and_that_of_an_archive_without_records(self):
        for rules in some_rules(1, 10):
            self.assertIs(is_position(rules, "E", start(rules)), True)
            self.assertEqual(position_of(rules, Archive([]), "a"), start(rules))

    def test_bad_rules(self):
        for value in NO_RULES:
            with self.subTest(value):
                self.assertEqual(raised(start, value), ("BadRules", {}))

    def test_where_the_interface_is_defined(self):
        for value in (start, is_position, position_of, demanded, stopped, sayings, step):
            self.assertEqual(value.__module__, "twolistings.positions")

    def test_examples(self):
        rules = [Rule.last_list(), Rule.checking()]
        here = step(rules, "EL", "sure", demanded(start(rules), "put"))
        self.assertEqual([here, sayings(here)], [("put", 1, 0, 1, ((0, 0), (0, 1))), ("absent", "struck", "newest")])
        self.assertEqual(step(rules, "EL", "sure", here, "newest"), ("rest", 0, 1, 1, ((0, 0), (0, 1))))
        self.assertIsNone(step(rules, "EL", "sure", here, "absent"))
        with self.assertRaises(BadSaying) as held:
            step([Rule.heads()], "LE", "same", demanded(start([Rule.heads()]), "put"), "newest")
        self.assertEqual(held.exception.saying, "newest")


class IsPosition(unittest.TestCase):
    def test_all_small_tuples(self):
        for rules, plan in [([Rule.heads()], "E"), ([Rule.primed()], "LE"), ([Rule.heads(), Rule.waiting()], "LEL")]:
            right = 0
            numbers = range(-1, len(rules) + 3)
            for role, done in itertools.product(["rest", *ROLES, "rests"], range(-1, len(plan) + 2)):
                for entries in itertools.product(numbers, repeat=len(rules) + 2):
                    for mode in (0, len(rules[0]) - 1, len(rules[0]), -1):
                        readers = ((mode, entries[2]), *[(0, kept) for kept in entries[3:]])
                        value = (role, done, *entries[:2], readers)
                        wanted = is_position_by_words(rules, plan, value)
                        self.assertIs(is_position(rules, plan, value), wanted, value)
                        right += wanted
            self.assertGreater(right, 30)

    def test_three_rules(self):
        rules = [Rule.heads(), Rule.waiting(), Rule.twice()]
        for entries in itertools.product(range(6), repeat=5):
            value = ("put", 1, *entries[:2], tuple((0, kept) for kept in entries[2:]))
            self.assertIs(is_position(rules, "EL", value), is_position_by_words(rules, "EL", value), value)
        self.assertIs(is_position(rules, "EL", ("put", 1, 1, 2, ((0, 3), (0, 4), (0, 5)))), True)

    def test_role_and_done(self):
        rules = [Rule.heads()]
        for plan in PLANS:
            for done in range(-2, 6):
                for role, steps in [("rest", 1), ("mend", 1), ("put", len(plan)), ("strike", len(plan)),
                                    ("other", len(plan))]:
                    value = (role, done, 1, 1, ((0, 1),))
                    self.assertIs(is_position(rules, plan, value), 0 <= done < steps, (plan, value))
            for role in ("Put", "puts", "", "E", "L", "list", None, 0, ("put",), ["put"]):
                self.assertIs(is_position(rules, plan, (role, 0, 0, 0, ((0, 0),))), False)

    def test_a_put_whose_own_record_is_written_has_a_newest_entry(self):
        for plan in PLANS:
            for done in range(len(plan)):
                for role in ("put", "strike", "other"):
                    value = (role, done, 0, 0, ((0, 0),))
                    wanted = role != "put" or done <= plan.index("E")
                    self.assertIs(is_position([Rule.heads()], plan, value), wanted, (plan, value))

    def test_entries_that_are_not_numbered_as_they_must_be(self):
        rules = [Rule.heads(), Rule.waiting()]
        for entries, wanted in [
                ((0, 1, 0, 0), True), ((1, 1, 0, 0), True), ((1, 2, 0, 0), True), ((2, 1, 0, 0), False),
                ((0, 2, 0, 0), False), ((2, 2, 0, 0), False), ((0, 1, 1, 2), True), ((0, 1, 2, 2), True),
                ((0, 1, 2, 3), True), ((0, 1, 3, 2), False), ((1, 2, 3, 4), True), ((1, 2, 4, 3), False),
                ((1, 2, 4, 4), False), ((1, 1, 2, 4), False), ((1, 2, 2, 1), True), ((0, 1, -1, 0), False),
                ((0, 0, 0, 0), True), ((1, 0, 0, 0), False), ((0, 0, 1, 0), False), ((0, 0, 0, 1), False),
                ((1, 0, 1, 1), False), ((0, 0, 1, 2), False), ((0, 10 ** 39, 0, 0), False), ((-1, 1, 0, 0), False)]:
            value = ("rest", 0, *entries[:2], ((0, entries[2]), (0, entries[3])))
            self.assertIs(is_position(rules, "EL", value), wanted, value)

    def test_modes(self):
        rules = [Rule.primed(), THREE_MODES]
        for first, second in itertools.product(range(-1, 5), repeat=2):
            value = ("other", 0, 0, 1, ((first, 1), (second, 1)))
            self.assertIs(is_position(rules, "E", value), 0 <= first < 2 and 0 <= second < 3, value)

    def test_true_and_false_are_no_numbers(self):
        rules = [Rule.primed()]
        for value in [("put", True, 1, 1, ((1, 1),)), ("put", 1, True, 1, ((1, 1),)), ("put", 1, 1, True, ((1, 1),)),
                      ("put", 1, 1, 1, ((True, 1),)), ("put", 1, 1, 1, ((1, True),)), ("put", False, 1, 1, ((1, 1),)),
                      ("put", 0, False, 1, ((1, 1),)), ("rest", 0, 0, False, ((0, 0),)),
                      ("put", 0, 1, 1, ((False, 1),)), ("put", 0, 1, 1, ((1, False),)),
                      ("rest", False, 0, 0, ((0, 0),))]:
            self.assertIs(is_position(rules, "EL", value), False, value)
        self.assertIs(is_position(rules, "EL", ("put", 1, 1, 1, ((1, 1),))), True)

    def test_values(self):
        rules = [Rule.heads(), Rule.primed()]
        right = ("put", 1, 1, 2, ((0, 3), (1, 1)))
        self.assertIs(is_position(rules, "EL", right), True)
        for value in VALUES:
            self.assertIs(is_position(rules, "EL", value), False, value)
            for at in range(5):
                wrong = (*right[:at], value, *right[at + 1:])
                wanted = type(value) is int and (at, value) in [(1, 0), (1, 1), (2, 1), (3, 2)]
                self.assertIs(is_position(rules, "EL", wrong), wanted, wrong)
            self.assertIs(is_position(rules, "EL", (*right, value)), False)
            for readers in [(value,), (value, (1, 1)), ((0, 3), value), ((0, 3), (1, 1), value), [(0, 3), (1, 1)],
                            ((0, 3, value), (1, 1)), ((value, 3), (0, value, 1)), ((0, 3), [1, 1])]:
                self.assertIs(is_position(rules, "EL", (*right[:4], readers)), False, readers)
        self.assertIs(is_position(rules, "EL", list(right)), False)
        self.assertIs(is_position(rules, "EL", right[:4]), False)

    def test_the_number_of_readers(self):
        for size in (1, 2, 3):
            for many in range(5):
                value = ("rest", 0, 0, 0, ((0, 0),) * many)
                self.assertIs(is_position([Rule.heads()] * size, "E", value), size == many)

    def test_errors(self):
        for value in NO_RULES:
            for plan in ("EL", "", None):
                self.assertEqual(raised(is_position, value, plan, None), ("BadRules", {}), value)
        for value in NO_PLANS:
            for given in (None, start([Rule.heads()])):
                self.assertEqual(raised(is_position, [Rule.heads()], value, given), ("BadPlan", {}), value)

    def test_each_plan(self):
        for size in range(1, 6):
            for signs in itertools.product("ELX", repeat=size):
                plan = "".join(signs)
                wanted = None if plan in PLANS else ("BadPlan", {})
                self.assertEqual(raised(is_position, [Rule.heads()], plan, None), wanted, plan)

    def test_by_name(self):
        rules = [Rule.heads()]
        self.assertIs(is_position(value=start(rules), plan="E", rules=rules), True)


class PositionOf(unittest.TestCase):
    def test_of_archives(self):
        rng = random.Random(2)
        found = {"same": 0, "parted": 0}
        for rules in some_rules(3, 120):
            records = random_records(rng, rng.randrange(15), ["a", "b", "c"])
            for name in [*names_in(records), "none"]:
                line = line_of(records, name)
                states = [state_behind(rule, line) for rule in rules]
                if len({shown for _, shown, _ in states}) > 1:
                    found["parted"] += 1
                    self.assertEqual(raised(position_of, rules, Archive(records), name), ("Parted", {"name": name}))
                    continue
                found["same"] += 1
                newest = max([entry for event, entry in line if event == "head"], default=0)
                readers = [(mode, kept) for mode, _, kept in states]
                wanted = position_by_words("rest", 0, states[0][1], newest, readers)
                self.assertEqual(position_of(rules, Archive(records), name), wanted)
                self.assertIs(is_position(rules, "E", wanted), True)
        self.assertGreater(min(found.values()), 30)

    def test_by_hand(self):
        archive = Archive([
            ("head", "a", FILE), ("list", (("a", 1),)), ("head", "a", FILE), ("strike", "b"), ("list", ())])
        for rules, name, wanted in [
                ([Rule.checking(), Rule.all_lists()], "a", ("rest", 0, 1, 2, ((0, 2), (0, 0)))),
                ([Rule.heads()], "a", ("rest", 0, 1, 1, ((0, 0),))),
                ([Rule.last_list()], "a", ("rest", 0, 0, 1, ((0, 0),))),
                ([Rule.twice()], "a", ("rest", 0, 0, 1, ((0, 2),))),
                ([Rule.primed()], "a", ("rest", 0, 0, 1, ((1, 1),)))]:
            self.assertEqual(position_of(rules, archive, name), wanted)

    def test_a_name_that_does_not_occur_and_one_with_strikes_alone(self):
        archive = Archive([("strike", "s"), ("head", "a", FILE), ("list", (("a", 1),))])
        self.assertEqual(position_of([Rule.primed(), Rule.heads()], archive, "n"), ("rest", 0, 0, 0, ((1, 0), (0, 0))))
        self.assertEqual(position_of([Rule.primed(), Rule.heads()], archive, "s"), ("rest", 0, 0, 0, ((1, 0), (0, 0))))
        self.assertEqual(position_of([Rule.checking()], archive, "s"), ("rest", 0, 0, 0, ((0, 0),)))
        self.assertEqual(position_of([Rule.primed()], archive.cut(2), "n"), ("rest", 0, 0, 0, ((0, 0),)))

    def test_parted(self):
        archive = Archive([("head", "a", FILE), ("head", "b", FILE), ("list", (("b", 1),))])
        rules = [Rule.heads(), Rule.last_list(), Rule.all_lists()]
        with self.assertRaises(Parted) as held:
            position_of(rules, archive, "a")
        self.assertEqual(held.exception.name, "a")
        self.assertEqual(position_of(rules, archive, "b"), ("rest", 0, 1, 1, ((0, 0), (0, 0), (0, 0))))
        self.assertEqual(raised(position_of, rules[::-1], archive, "a"), ("Parted", {"name": "a"}))
        self.assertEqual(raised(position_of, [rules[1], rules[2], rules[0]], archive, "a"), ("Parted", {"name": "a"}))

    def test_parted_only_behind_an_earlier_record(self):
        archive = Archive([("head", "a", FILE), ("list", (("a", 1),))])
        rules = [Rule.heads(), Rule.last_list()]
        self.assertEqual(position_of(rules, archive, "a"), ("rest", 0, 1, 1, ((0, 0), (0, 0))))
        self.assertEqual(raised(position_of, rules, archive.cut(1), "a"), ("Parted", {"name": "a"}))

    def test_bad_rules(self):
        for value in NO_RULES:
            self.assertEqual(raised(position_of, value, Archive([]), "a"), ("BadRules", {}), value)

    def test_by_name(self):
        self.assertEqual(position_of(name="a", archive=Archive([]), rules=[Rule.heads()]), ("rest", 0, 0, 0, ((0, 0),)))


class DemandsAndStops(unittest.TestCase):
    def test_demanded(self):
        for rules in some_rules(4, 10):
            for position in [place for place in all_positions(rules, "E") if place[0] == "rest"]:
                for role in ROLES:
                    self.assertEqual(demanded(position, role), (role, 0, *position[2:]))
        self.assertEqual(demanded(role="mend", position=start([Rule.heads()])), ("mend", 0, 0, 0, ((0, 0),)))

    def test_stopped(self):
        for rules in some_rules(5, 10):
            for position in [place for place in all_positions(rules, "LEL") if place[1] > 0]:
                self.assertEqual(stopped(position), ("rest", 0, *position[2:]))
        self.assertEqual(stopped(position=("put", 1, 0, 1, ((1, 0),))), ("rest", 0, 0, 1, ((1, 0),)))

    def test_sayings(self):
        for rules in some_rules(6, 10):
            for position in all_positions(rules, "EL"):
                self.assertEqual(sayings(position), sayings_by_words(position))
        for entries, wanted in [((0, 0), ("absent",)), ((0, 1), ("absent", "struck", "newest")),
                                ((1, 1), ("absent", "struck", "shown", "newest")),
                                ((1, 2), ("absent", "struck", "shown", "newest"))]:
            for role in ("rest", "put", "strike", "other", "mend"):
                self.assertEqual(sayings(position=(role, 0, *entries, ((0, 0),))), wanted)


class Steps(unittest.TestCase):
    def check(self, rules, plan, position):
        """Each step from a position, for each question and saying; how many are bad for each question."""
        bad = []
        for saying, question in itertools.product(due(plan, position), QUESTIONS):
            told = step(rules, plan, question, position, saying)
            self.assertEqual(told, step_by_words(rules, plan, question, position, saying), (plan, position, saying))
            if told is None:
                bad.append(question)
            else:
                self.assertIs(is_position(rules, plan, told), True)
        self.assertTrue(bad.count("same") <= bad.count("done") <= bad.count("sure"))
        return bad

    def test_each_position_of_some_rules(self):
        rng = random.Random(7)
        bad = []
        for rules in some_rules(8, 25):
            plan = rng.choice(PLANS)
            for position in all_positions(rules, plan):
                if position[0] != "rest" and rng.random() < 0.3:
                    bad += self.check(rules, plan, position)
        counts = [bad.count(question) for question in QUESTIONS]
        self.assertTrue(0 < counts[0] < counts[1] < counts[2], counts)

    def test_each_plan_of_known_rules(self):
        for plan in PLANS:
            for rules in ([Rule.checking()], [Rule.waiting()], [Rule.primed()], [Rule.last_list(), Rule.all_lists()]):
                for position in all_positions(rules, plan):
                    if position[0] != "rest":
                        self.check(rules, plan, position)

    def test_the_own_record(self):
        rules = [Rule.checking(), Rule.twice()]
        for role, kept in [("put", (2, 3)), ("strike", (0, 3)), ("other", (1, 3))]:
            place = (role, 0, 1, 2, ((0, 1), (0, 3)))
            self.assertEqual(step(rules, "E", "same", place), ("rest", 0, 1, 2, ((0, kept[0]), (0, kept[1]))))
        # The entry that was the newest is gone or not, and the others are numbered anew.
        for kept in ((1, 2), (1, 1)):
            place = ("put", 0, 0, 1, ((0, kept[0]), (0, kept[1])))
            self.assertEqual(step(rules, "EL", "same", place), ("put", 1, 0, 1, ((0, 1), (0, 2))))
        place = ("strike", 0, 1, 2, ((0, 1), (0, 2)))
        self.assertEqual(step(rules, "EL", "same", place), ("strike", 1, 1, 2, ((0, 0), (0, 2))))

    def test_each_saying(self):
        rules = [Rule.all_lists(), Rule.twice()]
        entries = (1, 2, ((0, 0), (0, 2)))
        after = {"absent": entries, "shown": (1, 2, ((0, 0), (0, 1))), "newest": (1, 1, ((0, 0), (0, 1)))}
        for saying, wanted in after.items():
            self.assertEqual(step(rules, "LE", "same", ("put", 0, *entries), saying), ("put", 1, *wanted))
            self.assertEqual(step(rules, "EL", "same", ("put", 1, *entries), saying), ("rest", 0, *wanted))
            self.assertEqual(step(rules, "E", "same", ("mend", 0, *entries), saying), ("rest", 0, *wanted))
        for plan, place in (("LE", ("put", 0, *entries)), ("EL", ("put", 1, *entries)), ("E", ("mend", 0, *entries))):
            self.assertIsNone(step(rules, plan, "same", place, "struck"))

    def test_a_mend_is_one_list_whatever_the_plan_is(self):
        rules = [Rule.all_lists()]
        for plan in PLANS:
            place = demanded(("rest", 0, 0, 1, ((0, 0),)), "mend")
            self.assertEqual(step(rules, plan, "same", place, "newest"), ("rest", 0, 1, 1, ((0, 0),)))
            self.assertEqual(step(rules, plan, "done", place, "newest"), ("rest", 0, 1, 1, ((0, 0),)))
            self.assertIsNone(step(rules, plan, "sure", place, "newest"))
            self.assertEqual(raised(step, rules, plan, "same", place), ("BadSaying", {"saying": None}))

    def test_the_last_step_of_a_put(self):
        rules = [Rule.all_lists()]
        place = ("put", 1, 0, 1, ((0, 0),))
        for saying in ("absent", "struck"):
            self.assertEqual(step(rules, "EL", "same", place, saying), ("rest", 0, 0, 1, ((0, 0),)))
            self.assertIsNone(step(rules, "EL", "done", place, saying))
            self.assertIsNone(step(rules, "EL", "sure", place, saying))
            # No last step: the put may still come to be shown.
            self.assertEqual(step(rules, "ELL", "sure", place, saying), ("put", 2, 0, 1, ((0, 0),)))
        for question in QUESTIONS:
            self.assertEqual(step(rules, "EL", question, place, "newest"), ("rest", 0, 1, 1, ((0, 0),)))
        self.assertIsNone(step(rules, "EL", "done", ("put", 1, 1, 2, ((0, 0),)), "shown"))

    def test_the_last_step_of_a_strike(self):
        rules = [Rule.all_lists()]
        place = ("strike", 1, 1, 1, ((0, 0),))
        for saying in ("absent", "shown", "newest"):
            self.assertEqual(step(rules, "EL", "same", place, saying), ("rest", 0, 1, 1, ((0, 0),)))
            self.assertIsNone(step(rules, "EL", "done", place, saying))
            self.assertIsNone(step(rules, "EL", "sure", place, saying))
            self.assertEqual(step(rules, "ELL", "sure", place, saying), ("strike", 2, 1, 1, ((0, 0),)))
        for question in QUESTIONS:
            self.assertEqual(step(rules, "EL", question, place, "struck"), ("rest", 0, 0, 1, ((0, 0),)))

    def test_sure_of_a_put(self):
        # Ahead of its own record a put may bring nothing to be shown, not even the newest entry so far.
        rules = [Rule.all_lists()]
        self.assertIsNone(step(rules, "LEL", "sure", ("put", 0, 0, 1, ((0, 0),)), "newest"))
        self.assertEqual(step(rules, "LEL", "done", ("put", 0, 0, 1, ((0, 0),)), "newest"), ("put", 1, 1, 1, ((0, 0),)))
        self.assertIsNone(step(rules, "LEL", "sure", ("put", 0, 1, 2, ((0, 0),)), "struck"))
        self.assertEqual(step(rules, "LEL", "sure", ("put", 0, 1, 2, ((0, 0),)), "shown"), ("put", 1, 1, 2, ((0, 0),)))
        # Its own record counts with this very step, but it brings nothing but the newest entry.
        self.assertEqual(step([Rule.heads()], "ELL", "sure", ("put", 0, 0, 0, ((0, 0),))), ("put", 1, 1, 1, ((0, 0),)))
        swaps = Rule.heads().changed(0, "head", [((), 0, "k", "n")])
        self.assertIsNone(step([swaps], "ELL", "sure", ("put", 0, 0, 1, ((0, 1),))))
        self.assertIsNone(step([swaps], "ELL", "sure", ("put", 0, 1, 2, ((0, 0),))))
        self.assertEqual(step([swaps], "ELL", "sure", ("put", 0, 1, 2, ((0, 1),))), ("put", 1, 1, 2, ((0, 2),)))

    def test_sure_of_a_strike(self):
        # A strike may come to be shown by each of its steps, but it brings no entry.
        rules = [Rule.all_lists()]
        place = ("strike", 0, 1, 2, ((0, 0),))
        self.assertEqual(step(rules, "LEL", "sure", place, "struck"), ("strike", 1, 0, 1, ((0, 0),)))
        self.assertEqual(step(rules, "LEL", "sure", place, "absent"), ("strike", 1, *place[2:]))
        self.assertIsNone(step(rules, "LEL", "sure", place, "newest"))
        self.assertEqual(step(rules, "LEL", "done", place, "newest"), ("strike", 1, 1, 1, ((0, 0),)))
        self.assertIsNone(step(rules, "LEL", "sure", ("strike", 0, 0, 1, ((0, 0),)), "newest"))

    def test_sure_of_others_and_mends(self):
        rules = [Rule.all_lists()]
        for role, plan in (("other", "LEL"), ("mend", "E")):
            for saying, keeps in [("absent", True), ("shown", True), ("struck", False), ("newest", False)]:
                place = (role, 0, 1, 2, ((0, 0),))
                self.assertIsNotNone(step(rules, plan, "done", place, saying))
                told = step(rules, plan, "sure", place, saying)
                self.assertEqual(told is not None, keeps, (role, saying))
        loses = Rule.heads().changed(0, "other", [((), 0, "o", "k")])
        self.assertIsNone(step([loses], "E", "sure", ("other", 0, 1, 1, ((0, 0),))))
        self.assertEqual(step([loses], "E", "done", ("other", 0, 1, 1, ((0, 0),))), ("rest", 0, 0, 1, ((0, 0),)))
        self.assertEqual(step([loses], "E", "sure", ("other", 0, 0, 1, ((0, 0),))), ("rest", 0, 0, 1, ((0, 0),)))

    def test_readers_that_part(self):
        rules = [Rule.last_list(), Rule.all_lists(), Rule.checking()]
        place = ("put", 1, 0, 1, ((0, 0), (0, 0), (0, 1)))
        self.assertEqual(step(rules, "EL", "same", place, "newest"), ("rest", 0, 1, 1, ((0, 0), (0, 0), (0, 1))))
        for at in range(3):
            parted = [*rules[:at], Rule.heads(), *rules[at + 1:]]
            self.assertIsNone(step(parted, "EL", "same", place, "newest"))
            self.assertIsNone(step(parted, "EL", "same", ("put", 0, 0, 0, ((0, 0),) * 3)))

    def test_by_name(self):
        rules = [Rule.all_lists()]
        told = step(saying="newest", position=("put", 1, 0, 1, ((0, 0),)), question="sure", plan="EL", rules=rules)
        self.assertEqual(told, ("rest", 0, 1, 1, ((0, 0),)))
        self.assertEqual(step(rules, "E", "same", ("other", 0, 0, 0, ((0, 0),)), None), start(rules))

    def test_what_is_handed_in_is_left_as_it_is(self):
        rules = [Rule.heads(), Rule.waiting()]
        step(rules, "EL", "same", demanded(start(rules), "put"))
        self.assertEqual(rules, [Rule.heads(), Rule.waiting()])

    def test_a_history_beside_an_archive(self):
        # Step by step a position is that of the name in the archive which is written, looked at as at rest.
        rng = random.Random(9)
        for rules in some_rules(10, 60):
            plan, records, place = rng.choice(PLANS), [], start(rules)
            while place is not None and len(records) < 25:
                place = demanded(place, rng.choice(ROLES))
                while place is not None and place[0] != "rest":
                    saying = rng.choice(due(plan, place))
                    records.append(record_by_words(records, rules, place, saying))
                    place = step(rules, plan, "same", place, saying)
                    if place is not None:
                        self.assertEqual(position_of(rules, Archive(records), "a"), ("rest", 0, *place[2:]))
                        if place[1] > 0 and rng.random() < 0.2:
                            place = stopped(place)
            if place is None:
                self.assertEqual(raised(position_of, rules, Archive(records), "a"), ("Parted", {"name": "a"}))


class WrongSteps(unittest.TestCase):
    rules = [Rule.heads(), Rule.primed()]
    place = ("put", 0, 0, 1, ((0, 1), (1, 2)))

    def test_bad_rules_come_first(self):
        for value in NO_RULES:
            self.assertEqual(raised(step, value, "EL", "same", self.place), ("BadRules", {}), value)
            self.assertEqual(raised(step, value, "X", "none", None, 5), ("BadRules", {}), value)

    def test_then_bad_plans(self):
        for value in NO_PLANS:
            self.assertEqual(raised(step, self.rules, value, "same", self.place), ("BadPlan", {}), value)
            self.assertEqual(raised(step, self.rules, value, "none", None, 5), ("BadPlan", {}), value)

    def test_then_no_questions(self):
        for value in NO_QUESTIONS:
            for given in ((self.place,), (None, 5)):
                name, told = raised(step, self.rules, "EL", value, *given)
                self.assertEqual([name, list(told)], ["NoQuestion", ["word"]])
                self.assertIs(told["word"], value)

    def test_then_bad_positions(self):
        rests = [start(self.rules), ("rest", *self.place[1:])]
        wrong = [list(self.place), (*self.place[:4], ((0, 1),)), ("put", 2, *self.place[2:]),
                 ("put", False, *self.place[2:]), ("mend", 1, *self.place[2:]), ("put", 0, 0, 1, ((0, 1), (2, 2))),
                 ("put", 1, 0, 0, ((0, 0), (0, 0))), ("put", 0, 0, 2, ((0, 1), (1, 2))),
                 ("put", 0, 1, 0, ((0, 1), (1, 1)))]
        for value in [*VALUES, *rests, *wrong]:
            for question in QUESTIONS:
                for given in ((), ("absent",), (5,)):
                    told = raised(step, self.rules, "EL", question, value, *given)
                    self.assertEqual(told, ("BadPosition", {}), value)

    def test_then_bad_sayings(self):
        words = ["absent", "struck", "shown", "newest", "named", "Absent", "", None]
        for role, done, shown, newest in itertools.product(["put", "strike", "other", "mend"], (0, 1), (0, 1), (0, 1)):
            place = (role, done, shown, newest, ((0, 0), (0, 0)))
            if not is_position(self.rules, "EL", place):
                continue
            for value in [*VALUES, *words, ("absent",), ["absent"], 0, False]:
                if value in due("EL", place):
                    self.assertIsNone(raised(step, self.rules, "EL", "sure", place, value))
                    continue
                name, told = raised(step, self.rules, "EL", "sure", place, value)
                self.assertEqual([name, list(told)], ["BadSaying", ["saying"]])
                self.assertIs(told["saying"], value)

    def test_a_saying_that_is_not_allowed_is_none_even_if_the_step_would_be_bad(self):
        place = ("put", 1, 0, 1, ((0, 1), (1, 1)))
        self.assertEqual(raised(step, self.rules, "EL", "sure", place, "shown"), ("BadSaying", {"saying": "shown"}))
        self.assertEqual(raised(step, self.rules, "EL", "sure", place), ("BadSaying", {"saying": None}))


if __name__ == "__main__":
    unittest.main()
