"""Points 3, 17, 19, 27, 28 and 29 for twolistings.writers: writers, deeds and the archives that they give."""

import random
import unittest

from plays import (PLANS, QUESTIONS, ROLES, SAYINGS, at_list, is_book_by_words, is_position_of_any, met_by_words,
                   record_by_words, sayings_by_words, some_rules, start_by_words, step_by_words)
from samples import KNOWN, NO_PLANS, NO_RULES, NO_QUESTIONS, VALUES, line_of, raised, state_behind
from twolistings.archives import Archive
from twolistings.books import shows_book, verdict
from twolistings.least import thin_book
from twolistings.positions import is_position
from twolistings.rules import Rule
from twolistings.writers import judged, shows_broken, shows_kept, written

CHAIN = [Rule.last_list(), Rule.all_lists(), Rule.checking()]
HEAD, STRIKE, OTHER = ("head", "a", ("file", "")), ("strike", "a"), ("head", "b", ("file", ""))


def said_by_words(plan, writer, position):
    """What a writer says with the next step."""
    if not at_list(plan, position):
        return None
    told = [saying for place, saying in writer if place == position]
    return told[0] if told and told[0] in sayings_by_words(position) else "absent"


def loud(rules, plan, saying):
    """The writer that says one thing at each met position."""
    return [(position, saying) for position in sorted(met_by_words(rules, plan, "same"))]


def drawn(rng, rules, plan):
    """A writer that says drawn things, allowed or not, at some of the met positions, in any order."""
    met = sorted(met_by_words(rules, plan, "same"))
    writer = [(position, rng.choice(SAYINGS)) for position in met if rng.random() < 0.8]
    rng.shuffle(writer)
    return writer


def near_book(rng, book):
    """A writer that says what a book has, but for a few rows."""
    writer = [(position, rng.choice(words)) for position, words in book if words]
    return [(position, rng.choice(SAYINGS) if rng.random() < 0.02 else saying) for position, saying in writer]


def steps_of(deeds):
    """All steps of deeds, as (role, done)."""
    return [(role, done) for role, steps in deeds for done in range(steps)]


def is_broken_by_words(rules, plan, question, writer, deeds):
    """Whether the last step of deeds, and no earlier one, is bad."""
    here, steps = start_by_words(rules), steps_of(deeds)
    for number, (role, done) in enumerate(steps):
        here = (role, done, *here[2:])
        here = step_by_words(rules, plan, question, here, said_by_words(plan, writer, here))
        if here is None:
            return number == len(steps) - 1
    return False


def written_by_words(rules, plan, writer, deeds):
    """The records that deeds give; None if a step stands behind one after which the readers part."""
    records, here = [], start_by_words(rules)
    for role, done in steps_of(deeds):
        if here is None:
            return None
        here = (role, done, *here[2:])
        saying = said_by_words(plan, writer, here)
        records.append(record_by_words(records, rules, here, saying))
        here = step_by_words(rules, plan, "same", here, saying)
    return records


def drawn_deeds(rng, plan, count):
    deeds = []
    for _ in range(count):
        role = rng.choice(ROLES)
        most = 1 if role == "mend" else len(plan)
        deeds.append((role, rng.choice([most, rng.randrange(1, most + 1)])))
    return deeds


class Judged(unittest.TestCase):
    def look_over(self, rules, plan, question, writer):
        word, paper = judged(rules, plan, question, writer)
        if word == "yes":
            self.assertTrue(is_book_by_words(rules, plan, question, paper))
            for position, words in paper:
                saying = said_by_words(plan, writer, position)
                self.assertEqual(words, () if saying is None else (saying,))
        else:
            self.assertEqual(word, "no")
            self.assertIs(type(paper), list)
            self.assertTrue(is_broken_by_words(rules, plan, question, writer, paper))
        self.assertIs(shows_kept(rules, plan, question, writer, paper), word == "yes")
        self.assertIs(shows_broken(rules, plan, question, writer, paper), word == "no")
        return word

    def test_where_the_interface_is_defined(self):
        for value in (judged, shows_kept, shows_broken, written):
            self.assertEqual(value.__module__, "twolistings.writers")

    def test_the_silent_writer(self):
        for name, rule in KNOWN.items():
            if name != "heads":
                self.assertEqual(self.look_over([rule], "EL", "same", []), "yes", name)
            self.assertEqual(self.look_over([rule], "E", "sure", []), "yes" if name == "heads" else "no")
        self.assertEqual(self.look_over([Rule.heads()], "LEL", "sure", []), "yes")
        self.assertEqual(self.look_over([Rule.heads(), Rule.checking()], "EL", "same", []), "no")
        self.assertEqual(judged([Rule.checking()], "EL", "sure", []), ("no", [("put", 2)]))
        self.assertEqual(judged([Rule.heads(), Rule.all_lists()], "EL", "same", []), ("no", [("put", 1)]))

    def test_one_that_says_newest_wherever_it_can(self):
        for question, expected in zip(QUESTIONS, ["yes", "no", "no"]):
            rules = CHAIN[1:2]
            self.assertEqual(self.look_over(rules, "EL", question, loud(rules, "EL", "newest")), expected)
        rules = [Rule.last_list(), Rule.all_lists()]
        self.assertEqual(self.look_over(rules, "EL", "same", loud(rules, "EL", "newest")), "yes")
        self.assertEqual(self.look_over(CHAIN, "EL", "same", loud(CHAIN, "EL", "newest")), "no")

    def test_writers_that_say_drawn_things(self):
        rng, words = random.Random(51), []
        for number, rules in enumerate(some_rules(51, 50)):
            plan, question = rng.choice(PLANS[:6]), QUESTIONS[number % 3]
            words.append(self.look_over(rules, plan, question, drawn(rng, rules, plan)))
        self.assertGreater(min(words.count("yes"), words.count("no")), 5)

    def test_writers_near_a_book(self):
        rng, words = random.Random(52), []
        for rules in some_rules(52, 40):
            for plan, question in (("EL", "sure"), ("ELL", "done"), ("LEL", "sure")):
                word, book = verdict(rules, plan, question)
                for _ in range(6 if word == "yes" else 0):
                    words.append(self.look_over(rules, plan, question, near_book(rng, book)))
        self.assertGreater(min(words.count("yes"), words.count("no")), 5)

    def test_a_writer_by_a_thin_book_keeps_it(self):
        book = thin_book(CHAIN, "EL", "sure")[0]
        writer = [(position, words[0]) for position, words in book if words]
        word, told = judged(CHAIN, "EL", "sure", writer[::-1])
        self.assertEqual([word, sorted(told)], ["yes", sorted(book)])

    def test_tuples_that_do_not_count(self):
        rules = [Rule.all_lists()]
        rest, zero = ("rest", 0, 0, 0, ((0, 0),)), ((0, 0),)
        # At rest and at "E" nothing is said; where no head stands, nothing but "absent" is allowed.
        writer = [(rest, "newest"), (("put", 0, 0, 0, zero), "struck"), (("mend", 0, 0, 0, zero), "newest"),
                  (("other", 1, 0, 1, zero), "shown"), (("mend", 0, 0, 1, zero), "shown")]
        self.assertEqual(judged(rules, "EL", "same", writer), judged(rules, "EL", "same", []))
        self.assertEqual(self.look_over(rules, "EL", "same", writer), "yes")

    def test_stops_in_the_deeds(self):
        # Silent, waiting shows in the list of another edit what the stopped put has said.
        word, deeds = judged([Rule.waiting()], "EL", "sure", [])
        self.assertEqual(word, "no")
        self.assertIs(shows_broken([Rule.waiting()], "EL", "sure", [], [("put", 1), ("other", 2)]), True)
        self.assertIs(shows_broken([Rule.waiting()], "EL", "sure", [], [("put", 1), ("mend", 1)]), True)
        self.assertIs(shows_broken([Rule.waiting()], "EL", "sure", [], [("put", 2), ("mend", 1)]), False)

    def test_the_same_again_and_what_is_handed_in_stays(self):
        writer = loud(CHAIN, "EL", "newest")
        kept = list(writer)
        for question in QUESTIONS:
            told = judged(CHAIN, "EL", question, writer)
            judged(CHAIN[:1], "LE", "same", [])
            again = judged(CHAIN, "EL", question, list(writer))
            self.assertEqual(told, again)
            self.assertIsNot(told[1], again[1])
        self.assertEqual(writer, kept)
        told = judged(writer=[], question="same", plan="E", rules=[Rule.heads()])
        self.assertEqual(told, judged([Rule.heads()], "E", "same", []))


class Papers(unittest.TestCase):
    rules = [Rule.all_lists(), Rule.checking()]

    def setUp(self):
        self.book = thin_book(self.rules, "EL", "sure")[0]
        self.writer = [(position, words[0]) for position, words in self.book if words]

    def kept(self, value):
        return shows_kept(self.rules, "EL", "sure", self.writer, value)

    def test_spoilt_books(self):
        self.assertIs(self.kept(self.book), True)
        for at, (position, words) in enumerate(self.book):
            self.assertIs(self.kept(self.book[:at] + self.book[at + 1:]), False)
            self.assertIs(self.kept([*self.book, self.book[at]]), False)
            for other in [(), ("absent",), ("struck",), ("newest",), list(words), ("absent", "struck")]:
                if other != words:
                    self.assertIs(self.kept([*self.book[:at], (position, other), *self.book[at + 1:]]), False)
        self.assertIs(self.kept(self.book[::-1]), False)
        self.assertIs(self.kept(tuple(self.book)), False)

    def test_books_of_another_writer(self):
        greatest = verdict(self.rules, "EL", "sure")[1]
        self.assertIs(self.kept(greatest), False)
        self.assertTrue(shows_book(self.rules, "EL", "sure", greatest))
        at = [number for number, (_, words) in enumerate(greatest) if words == ("absent", "struck")][0]
        place = greatest[at][0]
        other = [(position, "struck" if position == place else words[0]) for position, words in greatest if words]
        word, book = judged(self.rules, "EL", "sure", other)
        self.assertEqual(word, "yes")
        self.assertIs(shows_kept(self.rules, "EL", "sure", other, book), True)
        self.assertIs(self.kept(book), False)
        # The writer may say its things in any order, and further ones at positions that do not come.
        self.assertIs(shows_kept(self.rules, "EL", "sure", other[::-1], book), True)

    def test_spoilt_deeds(self):
        rules, writer = [Rule.checking()], []
        deeds = [("mend", 1), ("put", 2)]

        def broken(value):
            return shows_broken(rules, "EL", "sure", writer, value)
        self.assertIs(broken(deeds), True)
        for value in [deeds[:1], [], deeds[::-1], deeds * 2, [*deeds, ("mend", 1)], [("put", 1)], [("put", 3)],
                      [("put", 2), ("put", 2)], [("put", 0), ("put", 2)], [("rest", 1), ("put", 2)],
                      [("mend", 2), ("put", 2)], [("put", True), ("put", 2)], [("put", 2, 0)], [("put",)],
                      [["put", 2]], tuple(deeds), [("other", 2)], [("strike", 2)], [(None, 1), ("put", 2)],
                      [("put", 2), None], [([], []), ("put", 2)], ("put", 2), [("mend", 1), ("put", -1)]]:
            self.assertIs(broken(value), False, value)
        self.assertIs(broken([("put", 1), ("other", 2), ("put", 2)]), True)

    def test_drawn_deeds(self):
        rng, found = random.Random(53), []
        for number, rules in enumerate(some_rules(53, 40)):
            plan, question = rng.choice(["EL", "LEL", "ELL", "LE"]), QUESTIONS[number % 3]
            writer = drawn(rng, rules, plan)
            for _ in range(20):
                deeds = drawn_deeds(rng, plan, rng.randrange(4))
                found.append(shows_broken(rules, plan, question, writer, deeds))
                self.assertIs(found[-1], is_broken_by_words(rules, plan, question, writer, deeds))
        self.assertEqual(set(found), {True, False})

    def test_values_of_many_forms(self):
        for value in [*VALUES, self.book[0], [None], [self.book[0], None], [(value, ()) for value in VALUES]]:
            self.assertIs(self.kept(value), False)
            self.assertIs(shows_broken(self.rules, "EL", "sure", self.writer, value), False)
            self.assertIs(shows_broken([Rule.checking()], "EL", "sure", [], [value, ("put", 2)]), False)
        told = shows_kept(value=self.book, writer=self.writer, question="sure", plan="EL", rules=self.rules)
        self.assertIs(told, True)
        told = shows_broken(value=[("put", 2)], writer=[], question="done", plan="EL", rules=self.rules)
        self.assertIs(told, True)


class Written(unittest.TestCase):
    def test_records_one_by_one(self):
        book = thin_book(CHAIN, "EL", "sure")[0]
        writer = [(position, words[0]) for position, words in book if words]
        deeds = [("put", 2), ("other", 2), ("put", 1), ("mend", 1), ("strike", 1), ("other", 1), ("strike", 2)]
        archive = written(CHAIN, "EL", writer, deeds)
        self.assertIs(type(archive), Archive)
        self.assertEqual(archive.records, [
            HEAD, ("list", (("a", 1),)), OTHER, ("list", (("a", 3),)), HEAD, ("list", (("a", 5),)), STRIKE, OTHER,
            STRIKE, ("list", (("a", 0),)),
        ])

    def test_each_saying(self):
        rules, zero = [Rule.all_lists()], ((0, 0),)
        writer = [(("put", 1, 0, 1, zero), "newest"), (("put", 1, 1, 2, zero), "shown"),
                  (("mend", 0, 1, 2, zero), "newest"), (("strike", 1, 1, 1, zero), "struck"),
                  (("mend", 0, 1, 1, zero), "shown"), (("mend", 0, 0, 0, zero), "newest")]
        deeds = [("mend", 1), ("put", 2), ("put", 2), ("mend", 1), ("mend", 1), ("strike", 2), ("mend", 1)]
        self.assertEqual(written(rules, "EL", writer, deeds).records, [
            ("list", ()), HEAD, ("list", (("a", 1),)), HEAD, ("list", (("a", 3),)), ("list", (("a", 2),)),
            ("list", (("a", 3),)), STRIKE, ("list", (("a", 0),)), ("list", ()),
        ])

    def test_the_plan_tells_the_steps(self):
        self.assertEqual(written([Rule.heads()], "LEL", [], [("put", 1), ("strike", 2), ("other", 3)]).records,
                         [("list", ()), ("list", ()), STRIKE, ("list", ()), OTHER, ("list", ())])
        self.assertEqual(written([Rule.heads()], "E", [], [("other", 1), ("put", 1), ("mend", 1)]).records,
                         [OTHER, HEAD, ("list", ())])
        self.assertEqual(written([Rule.heads()], "E", [], []).records, [])

    def test_many_deeds(self):
        rng, ends = random.Random(54), []
        for rules in some_rules(54, 60):
            plan = rng.choice(PLANS)
            writer = drawn(rng, rules, rng.choice([plan, "EL"])) if rng.random() < 0.8 else []
            writer = [(place, saying) for place, saying in writer if is_position(rules, plan, place)]
            for _ in range(4):
                deeds = drawn_deeds(rng, plan, rng.randrange(7))
                expected = written_by_words(rules, plan, writer, deeds)
                ends.append(expected is None)
                if expected is None:
                    at = [number for number in range(len(deeds))
                          if written_by_words(rules, plan, writer, deeds[:number + 1]) is None][0]
                    self.assertEqual(raised(written, rules, plan, writer, deeds), ("BadDeed", {"at": at}))
                else:
                    self.assertEqual(written(rules, plan, writer, deeds).records, expected)
        self.assertEqual(set(ends), {True, False})

    def test_judged_deeds_end_at_the_bad_step(self):
        # For "same" a bad step is one after which the readers part, and nothing else.
        rng, rules = random.Random(55), [Rule.heads(), Rule.checking()]
        for _ in range(10):
            writer = drawn(rng, rules, "LEL")
            word, deeds = judged(rules, "LEL", "same", writer)
            self.assertEqual(word, "no")
            records = written(rules, "LEL", writer, deeds).records
            shown = [{state_behind(rule, line_of(records[:size], "a"))[1] for rule in rules}
                     for size in range(len(records) + 1)]
            self.assertEqual([len(entries) for entries in shown], [1] * len(records) + [2])
            self.assertEqual(raised(written, rules, "LEL", writer, [*deeds, ("mend", 1)]),
                             ("BadDeed", {"at": len(deeds)}))

    def test_long_deeds(self):
        book = thin_book(CHAIN, "EL", "sure")[0]
        writer = [(position, words[0]) for position, words in book if words]
        deeds = [("put", 2), ("other", 1), ("strike", 2), ("mend", 1), ("put", 1)] * 400
        archive = written(CHAIN, "EL", writer, deeds)
        self.assertEqual(len(archive), 2800)
        self.assertEqual(archive.records[:7], written(CHAIN, "EL", writer, deeds[:5]).records)

    def test_what_is_handed_in_stays(self):
        writer, deeds = loud(CHAIN, "EL", "newest"), [("put", 1), ("mend", 1)]
        kept = (list(writer), list(deeds))
        self.assertEqual(raised(written, CHAIN, "EL", writer, deeds), None)
        archive = written(deeds=deeds, writer=writer, plan="EL", rules=CHAIN)
        self.assertEqual((writer, deeds), kept)
        deeds.append(("put", 2))
        self.assertEqual(len(archive), 2)
        self.assertEqual(archive, written(CHAIN, "EL", writer, deeds[:2]))


class Errors(unittest.TestCase):
    rules = [Rule.heads(), Rule.primed()]
    places = [("mend", 0, 0, 1, ((0, 1), (1, 1))), ("put", 1, 1, 2, ((0, 0), (1, 2))),
              ("rest", 0, 0, 0, ((0, 0), (1, 0)))]

    def calls(self, rules, plan, question, writer):
        return [(judged, (rules, plan, question, writer)), (shows_kept, (rules, plan, question, writer, 5)),
                (shows_broken, (rules, plan, question, writer, None))]

    def test_bad_rules_then_bad_plans_then_no_questions(self):
        for value in NO_RULES:
            for call, given in self.calls(value, "X", "none", None):
                self.assertEqual(raised(call, *given), ("BadRules", {}), value)
            self.assertEqual(raised(written, value, "X", None, None), ("BadRules", {}))
        for value in NO_PLANS:
            for call, given in self.calls(self.rules, value, "none", None):
                self.assertEqual(raised(call, *given), ("BadPlan", {}), value)
            self.assertEqual(raised(written, self.rules, value, None, None), ("BadPlan", {}))
        for value in NO_QUESTIONS:
            for call, given in self.calls(self.rules, "EL", value, None):
                name, told = raised(call, *given)
                self.assertEqual([name, list(told)], ["NoQuestion", ["word"]])
                self.assertIs(told["word"], value)

    def bad_writer(self, writer, at):
        for question in QUESTIONS:
            for call, given in self.calls(self.rules, "EL", question, writer):
                self.assertEqual(raised(call, *given), ("BadWriter", {"at": at}), writer)
        for deeds in (None, [], [("put", 3)]):
            self.assertEqual(raised(written, self.rules, "EL", writer, deeds), ("BadWriter", {"at": at}), writer)

    def test_writers_that_are_no_lists(self):
        for value in VALUES:
            if type(value) is not list:
                self.bad_writer(value, 0)
        self.bad_writer(tuple((place, "absent") for place in self.places), 0)
        self.bad_writer({place: "absent" for place in self.places}, 0)

    def test_the_first_element_that_is_none(self):
        right = [(place, saying) for place, saying in zip(self.places, ("struck", "absent", "newest"))]
        place = ("put", 0, 0, 0, ((0, 0), (0, 0)))
        wrong = [*VALUES, list(right[0]), (place,), (place, "absent", "absent"), (place, None), (place, "named"),
                 (place, "Absent"), (place, ["absent"]), (place, ("absent",)), (list(place), "absent"),
                 ("absent", place), (place[:4], "absent"), (("put", 2, *place[2:]), "absent"),
                 (("mend", 1, *place[2:]), "absent"),
                 (("put", True, *place[2:]), "absent"), (("put", 0, 0, 2, ((0, 0), (0, 1))), "newest"),
                 (("put", 1, *place[2:]), "absent"), (([],), "absent")]
        for value in wrong:
            for at in range(4):
                self.bad_writer([*right[:at], value, *right[at:], None], at)
        self.assertTrue(all(is_position_of_any(self.rules, "EL", place) for place in self.places))
        self.assertIsNone(raised(judged, self.rules, "EL", "same", right))

    def test_a_position_that_stood_before(self):
        right = [(place, "absent") for place in self.places]
        self.bad_writer([*right, right[0]], 3)
        self.bad_writer([*right, (self.places[1], "newest"), None], 3)
        self.bad_writer([right[0], right[0], right[0]], 1)

    def test_bad_deeds(self):
        right = [("mend", 1), ("other", 2), ("strike", 1)]
        rules = [Rule.all_lists()]
        wrong = [*VALUES, ("put", 3), ("put", 0), ("put", -1), ("put", True), ("put", "1"), ("put", None), ("mend", 2),
                 ("mend", 0), ("rest", 1), ("Put", 1), ("put",), ("put", 1, 1), ["put", 1], (["put"], 1), ("put", (1,))]
        for value in wrong:
            for at in range(4):
                deeds = [*right[:at], value, *right[at:], ("put", 9)]
                self.assertEqual(raised(written, rules, "EL", [], deeds), ("BadDeed", {"at": at}), value)
            if type(value) is not list:
                self.assertEqual(raised(written, rules, "EL", [], value), ("BadDeed", {"at": 0}), value)
        self.assertEqual(raised(written, rules, "EL", [], tuple(right)), ("BadDeed", {"at": 0}))
        self.assertIsNone(raised(written, rules, "EL", [], right))
        self.assertEqual(raised(written, rules, "E", [], right), ("BadDeed", {"at": 1}))

    def test_steps_behind_one_after_which_readers_part(self):
        rules = [Rule.heads(), Rule.all_lists()]
        self.assertEqual(written(rules, "EL", [], [("other", 2), ("put", 1)]).records, [OTHER, ("list", ()), HEAD])
        # What is no deed comes first, wherever it stands.
        for deeds, at in [([("other", 2), ("put", 2)], 1), ([("put", 1), ("mend", 1)], 1),
                          ([("put", 1), ("put", 1), ("mend", 1)], 1), ([("put", 2), ("mend", 1), ("mend", 2)], 2)]:
            self.assertEqual(raised(written, rules, "EL", [], deeds), ("BadDeed", {"at": at}))


if __name__ == "__main__":
    unittest.main()
