"""Points 2, 3, 17, 19, 27 and 28 for twolistings.contests: sayings played against a defeat."""

import random
import unittest

from plays import (QUESTIONS, ROLES, SAYINGS, at_list, record_by_words, sayings_by_words, some_rules, start_by_words,
                   step_by_words)
from samples import NO_PLANS, NO_QUESTIONS, NO_RULES, VALUES, line_of, raised, state_behind
from twolistings.archives import Archive
from twolistings.books import beaten, shows_defeat, verdict
from twolistings.contests import contest
from twolistings.least import least_plan
from twolistings.rules import Rule

APART = [Rule.heads(), Rule.last_list()]
HEAD, STRIKE, OTHER = ("head", "a", ("file", "")), ("strike", "a"), ("head", "b", ("file", ""))


def contest_by_words(rules, plan, question, defeat, said):
    """The deeds and the records of a contest, and the number of its moves, by the words of point 19."""
    moves, left = dict(defeat), list(said)
    here, deeds, records, many = start_by_words(rules), [], [], 0
    while here is not None:
        move, many = moves[here], many + 1
        if move in ROLES:
            deeds.append((move, 0))
            here = (move, 0, *here[2:])
        elif move == "stop":
            here = ("rest", 0, *here[2:])
        else:
            saying = None
            if at_list(plan, here):
                saying = left.pop(0) if left else "absent"
                saying = saying if saying in sayings_by_words(here) else "absent"
            records.append(record_by_words(records, rules, here, saying))
            deeds[-1] = (here[0], here[1] + 1)
            here = step_by_words(rules, plan, question, here, saying)
    return deeds, records, many


def defeats(seed, count):
    """Games that no writer wins, with a defeat of each."""
    rng = random.Random(seed)
    for number, rules in enumerate(some_rules(seed, count)):
        plan, question = rng.choice(["E", "EL", "LE", "ELL", "LEL", "LELL"]), QUESTIONS[number % 3]
        word, defeat = verdict(rules, plan, question)
        if word == "no":
            yield rules, plan, question, defeat


class Contests(unittest.TestCase):
    def look_over(self, rules, plan, question, defeat, said):
        told = contest(rules, plan, question, defeat, said)
        deeds, records, many = contest_by_words(rules, plan, question, defeat, said)
        self.assertEqual([type(told), len(told), type(told[0]), type(told[1])], [tuple, 2, list, Archive])
        self.assertEqual([told[0], told[1].records], [deeds, records])
        self.assertLessEqual(many, len(defeat))
        return deeds, records

    def test_example(self):
        deeds, archive = contest(APART, "EL", "same", verdict(APART, "EL", "same")[1], ["newest"])
        self.assertEqual([deeds, archive.records], [[("put", 1)], [HEAD]])
        self.assertEqual(contest.__module__, "twolistings.contests")

    def test_drawn_sayings(self):
        rng, sizes = random.Random(61), []
        for rules, plan, question, defeat in defeats(61, 60):
            self.look_over(rules, plan, question, defeat, [])
            for _ in range(6):
                said = [rng.choice(SAYINGS) for _ in range(rng.randrange(8))]
                deeds, records = self.look_over(rules, plan, question, defeat, said)
                self.assertEqual(sum(steps for _, steps in deeds), len(records))
                sizes.append(len(deeds))
        self.assertGreater(max(sizes), 1)

    def test_the_last_step_is_bad_and_no_earlier_one(self):
        rng = random.Random(62)
        for rules, plan, question, defeat in defeats(62, 40):
            if question != "same":
                continue
            said = [rng.choice(SAYINGS) for _ in range(6)]
            records = contest(rules, plan, question, defeat, said)[1].records
            for size in range(len(records) + 1):
                shown = {state_behind(rule, line_of(records[:size], "a"))[1] for rule in rules}
                self.assertEqual(len(shown) > 1, size == len(records))

    def test_sayings_told_one_by_one(self):
        # Waiting shows a stopped put in the next list, whatever this says; for "sure" only the put may show it.
        rules, zero, kept = [Rule.waiting()], ((0, 0),), ((0, 1),)
        rows = [(("mend", 0, 0, 1, kept), "go"), (("rest", 0, 0, 1, kept), "mend"), (("put", 1, 0, 1, kept), "stop"),
                (("put", 0, 0, 0, zero), "go"), (("rest", 0, 0, 0, zero), "put"), (("mend", 0, 0, 0, zero), "go")]
        self.assertIs(shows_defeat(rules, "EL", "sure", rows), True)
        for said, back in [(["newest"], (("a", 1),)), (["struck"], (("a", 0),)), (["absent"], ()), ([], ()),
                           (["shown", "newest"], ()), (["newest", "shown"], (("a", 1),)), (["named"], ())]:
            deeds, archive = contest(rules, "EL", "sure", rows, said)
            self.assertEqual([deeds, archive.records], [[("put", 1), ("mend", 1)], [HEAD, ("list", back)]])
        # Begun with a mend, the first saying is used up where nothing but "absent" is allowed.
        first = [row for row in rows if row[0] != ("rest", 0, 0, 0, zero)]
        self.assertIs(shows_defeat(rules, "EL", "sure", first), False)

    def test_a_saying_that_is_not_allowed_is_used_up(self):
        # No list can say of "a" at the start anything but "absent"; the put that follows takes the next saying.
        rule = Rule.all_lists().changed(0, "named", [((), 0, "s", "k")])
        word, defeat = verdict([rule], "LEL", "done")
        self.assertEqual(word, "no")
        deeds, archive = contest([rule], "LEL", "done", defeat, ["newest", "struck"])
        self.assertEqual(deeds[-1], ("put", 3))
        self.assertEqual(archive.records, [("list", ()), HEAD, ("list", (("a", 0),))])
        self.look_over([rule], "LEL", "done", defeat, ["shown", "newest", "absent"])

    def test_defeats_of_all_plans(self):
        for rules in (APART, [Rule.waiting()]):
            for question in QUESTIONS:
                told = least_plan(rules, question)
                for plan, defeat in zip(["E", "EL", "LE", "ELL", "LEL", "LLE"], told[-1]):
                    for said in ([], ["newest"] * 9, ["struck"] * 9, ["shown"] * 9, ["absent", "newest"] * 4):
                        self.look_over(rules, plan, question, defeat, said)

    def test_a_defeat_with_rows_that_are_not_played(self):
        for rules, plan, question, _ in defeats(63, 20):
            self.look_over(rules, plan, question, beaten(rules, plan, question), ["newest", "struck"] * 3)

    def test_another_name_is_put_for_other(self):
        loses = [Rule.heads().changed(0, "other", [((), 0, "o", "k")])]
        word, defeat = verdict(loses, "E", "sure")
        self.assertEqual(word, "no")
        deeds, archive = contest(loses, "E", "sure", defeat, [])
        self.assertEqual([deeds, archive.records], [[("put", 1), ("other", 1)], [HEAD, OTHER]])

    def test_the_same_again_and_what_is_handed_in_stays(self):
        defeat = verdict(APART, "ELL", "sure")[1]
        said = ["newest", "absent", "struck"]
        kept = (list(defeat), list(said))
        told = contest(said=said, defeat=defeat, question="sure", plan="ELL", rules=APART)
        contest(APART, "EL", "same", verdict(APART, "EL", "same")[1], said)
        self.assertEqual((defeat, said), kept)
        again = contest(APART, "ELL", "sure", defeat, said)
        self.assertEqual(told, again)
        self.assertIsNot(told[0], again[0])


class Errors(unittest.TestCase):
    def test_in_their_order(self):
        for value in NO_RULES:
            self.assertEqual(raised(contest, value, "X", "none", None, []), ("BadRules", {}), value)
        for value in NO_PLANS:
            self.assertEqual(raised(contest, APART, value, "none", None, []), ("BadPlan", {}), value)
        for value in NO_QUESTIONS:
            name, told = raised(contest, APART, "EL", value, None, [])
            self.assertEqual([name, list(told)], ["NoQuestion", ["word"]])
            self.assertIs(told["word"], value)

    def test_no_defeat(self):
        defeat = verdict(APART, "EL", "same")[1]
        for value in [*VALUES, tuple(defeat), defeat[::-1], defeat[:1], [*defeat, defeat[0]],
                      [list(row) for row in defeat], [(*row, 0) for row in defeat], [*defeat, None], dict(defeat),
                      [defeat], [(defeat[0][0], "stop")]]:
            self.assertEqual(raised(contest, APART, "EL", "same", value, ["newest"]), ("NoDefeat", {}), value)
        self.assertIsNone(raised(contest, APART, "EL", "same", defeat, []))
        # Warnings without the start, and a defeat of another game.
        self.assertEqual(raised(contest, APART, "EL", "same", defeat[:-1], []), ("NoDefeat", {}))
        self.assertEqual(raised(contest, [Rule.heads()] * 2, "EL", "same", defeat, []), ("NoDefeat", {}))
        self.assertEqual(raised(contest, APART, "LE", "same", defeat, []), ("NoDefeat", {}))
        book = verdict([Rule.heads()], "E", "sure")[1]
        self.assertEqual(raised(contest, [Rule.heads()], "E", "sure", book, []), ("NoDefeat", {}))


if __name__ == "__main__":
    unittest.main()
