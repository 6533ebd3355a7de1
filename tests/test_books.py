"""Points 2, 3, 15, 16, 17, 18, 27 and 28 for twolistings.books: verdicts, books, warnings and defeats."""

import random
import unittest

from plays import (PLANS, QUESTIONS, ROLES, SAYINGS, are_warnings_by_words, at_list, beaten_by_words, due,
                   is_book_by_words, is_defeat_by_words, met_by_words, sayings_by_words, some_rules, start_by_words)
from samples import KNOWN, NO_PLANS, NO_QUESTIONS, NO_RULES, VALUES, raised
from twolistings.books import beaten, met, shows_book, shows_defeat, shows_warnings, verdict
from twolistings.positions import demanded, step, stopped
from twolistings.rules import Rule

FUNCTIONS = [verdict, met, beaten]
LOOKS = [shows_book, shows_warnings, shows_defeat]
CHAIN = [Rule.last_list(), Rule.all_lists(), Rule.checking()]
APART = [Rule.heads(), Rule.last_list()]


def games(seed, count):
    """Rules, a plan and a question, so many; the known rules alone come first, with plans that some of them have."""
    rng = random.Random(seed)
    for number, rules in enumerate(some_rules(seed, count)):
        plan = rng.choice(["E", "EL", "LEL", "ELL"] if len(rules) == 1 else PLANS)
        yield rules, plan, QUESTIONS[number % 3]


class Verdicts(unittest.TestCase):
    def look_over(self, rules, plan, question):
        word, paper = verdict(rules, plan, question)
        is_right, shows = (is_book_by_words, shows_book) if word == "yes" else (is_defeat_by_words, shows_defeat)
        self.assertIn(word, ["yes", "no"])
        self.assertTrue(is_right(rules, plan, question, paper), (plan, question))
        self.assertIs(shows(rules, plan, question, paper), True)
        return word

    def test_examples(self):
        defeat = [(("put", 0, 0, 0, ((0, 0), (0, 0))), "go"), (("rest", 0, 0, 0, ((0, 0), (0, 0))), "put")]
        self.assertEqual(verdict(APART, "EL", "same")[0], "no")
        self.assertIs(shows_defeat(APART, "EL", "same", defeat), True)
        self.assertEqual(verdict(CHAIN, "EL", "sure")[0], "yes")

    def test_where_the_interface_is_defined(self):
        for value in [*FUNCTIONS, *LOOKS]:
            self.assertEqual(value.__module__, "twolistings.books")

    def test_known_rules_alone(self):
        # From which plan on a known rule has a book, of E, EL, LE, ELL, LEL and LLE.
        plans = ["E", "EL", "LE", "ELL", "LEL", "LLE"]
        words = {
            "heads": ["yes"] * 6, "last_list": ["no", "yes", "no", "yes", "yes", "no"],
            "all_lists": ["no", "yes", "no", "yes", "yes", "no"], "checking": ["no", "yes", "no", "yes", "yes", "no"],
            "twice": ["no", "no", "no", "yes", "no", "no"], "primed": ["no", "no", "no", "no", "yes", "no"],
            "waiting": ["no"] * 6,
        }
        for name, expected in words.items():
            told = [self.look_over([KNOWN[name]], plan, "sure") for plan in plans]
            self.assertEqual(told, expected, name)

    def test_both_words_over_many_games(self):
        words = {"yes": 0, "no": 0}
        for rules, plan, question in games(21, 60):
            word = self.look_over(rules, plan, question)
            words[word] += 1
            self.assertEqual(word == "no", start_by_words(rules) in beaten_by_words(rules, plan, question))
        self.assertGreater(min(words.values()), 10)

    def test_the_three_questions_differ(self):
        # A silent writer keeps last_list the same with any plan; "done" asks that a put is shown at its end.
        rules = [Rule.last_list()]
        words = [[self.look_over(rules, plan, question) for question in QUESTIONS] for plan in ("LE", "EL")]
        self.assertEqual(words, [["yes", "no", "no"], ["yes", "yes", "yes"]])
        # Waiting shows in another's list what its own stopped edit has said.
        words = [self.look_over([Rule.waiting()], "EL", question) for question in QUESTIONS]
        self.assertEqual(words, ["yes", "yes", "no"])

    def test_readers_by_heads_and_from_the_last_list_have_no_book_with_any_plan(self):
        for plan in PLANS:
            for question in QUESTIONS:
                self.assertEqual(self.look_over(APART, plan, question), "no")

    def test_known_rules_together(self):
        known = ["heads", "last_list", "all_lists", "checking"]
        both = {(one, other) for one in known for other in known
                if self.look_over([KNOWN[one], KNOWN[other]], "EL", "sure") == "yes"}
        lists = ["last_list", "all_lists", "checking"]
        self.assertEqual(both, {(one, other) for one in lists for other in lists} | {("heads", "heads")})

    def test_the_same_question_again_has_the_same_answer(self):
        for rules, plan, question in games(22, 10):
            for function in FUNCTIONS:
                told = function(rules, plan, question)
                function(APART, "LE", "done")
                again = function(list(rules), plan, question)
                self.assertEqual(told, again)
                self.assertIsNot(told, again)

    def test_what_is_returned_is_new_and_what_is_handed_in_stays(self):
        rules = list(CHAIN)
        first, second = verdict(rules, "EL", "sure")[1], verdict(rules, "EL", "sure")[1]
        first.clear()
        self.assertNotEqual(second, [])
        self.assertEqual(verdict(rules, "EL", "sure")[1], second)
        shows_book(rules, "EL", "sure", second)
        self.assertEqual(second, verdict(rules, "EL", "sure")[1])
        for function in (met, beaten):
            told = function(rules, "EL", "sure")
            kept = list(told)
            told.clear()
            self.assertEqual(function(rules, "EL", "sure"), kept)
        self.assertEqual(rules, CHAIN)

    def test_by_name(self):
        for function in FUNCTIONS:
            told = function(question="same", plan="E", rules=[Rule.heads()])
            self.assertEqual(told, function([Rule.heads()], "E", "same"))
        for look in LOOKS:
            self.assertIs(look(value=5, question="same", plan="E", rules=[Rule.heads()]), False)


class MetAndBeaten(unittest.TestCase):
    def test_each_once_and_no_others(self):
        for rules, plan, question in games(23, 40):
            told = met(rules, plan, question)
            self.assertIs(type(told), list)
            self.assertEqual(sorted(told), sorted(met_by_words(rules, plan, question)))
            lost = beaten(rules, plan, question)
            positions = [position for position, _ in lost]
            self.assertEqual(sorted(positions), sorted(beaten_by_words(rules, plan, question)))
            self.assertTrue(are_warnings_by_words(rules, plan, question, lost))
            self.assertIs(shows_warnings(rules, plan, question, lost), True)

    def test_the_start_is_beaten_exactly_if_there_is_no_book(self):
        for rules, plan, question in games(24, 40):
            lost = beaten(rules, plan, question)
            is_beaten = start_by_words(rules) in [position for position, _ in lost]
            self.assertEqual(is_beaten, verdict(rules, plan, question)[0] == "no")
            self.assertIs(shows_defeat(rules, plan, question, lost), is_beaten)

    def test_a_small_game(self):
        zero, one = ("rest", 0, 0, 0, ((0, 0),)), ("rest", 0, 1, 1, ((0, 0),))
        told = met([Rule.heads()], "E", "sure")
        gone = ("rest", 0, 0, 1, ((0, 0),))
        rests = [zero, one, gone]
        self.assertEqual(sorted(told), sorted(rests + [(role, 0, *rest[2:]) for rest in rests for role in ROLES]))
        self.assertEqual(beaten([Rule.heads()], "E", "sure"), [])
        told = beaten([Rule.all_lists()], "E", "done")
        self.assertEqual(told[:2], [(("put", *zero[1:]), "go"), (zero, "put")])
        # From the other edits the next demand is the put.
        self.assertEqual(sorted(told[2:]), [((role, *zero[1:]), "go") for role in ("mend", "other", "strike")])


class Books(unittest.TestCase):
    # One of the games in which there are a book and beaten positions.
    rules, plan = [Rule.twice()], "ELL"

    def shows(self, value):
        told = shows_book(self.rules, self.plan, "sure", value)
        self.assertIs(told, is_book_by_words(self.rules, self.plan, "sure", value))
        return told

    def test_a_row_left_out_or_twice(self):
        book = verdict(self.rules, self.plan, "sure")[1]
        self.assertTrue(self.shows(book))
        for at in range(len(book)):
            self.assertFalse(self.shows(book[:at] + book[at + 1:]))
            self.assertFalse(self.shows(book[:at] + [book[at]] + book[at:]))
            self.assertFalse(self.shows(book + [book[at]]))

    def test_rows_in_another_sequence(self):
        book = verdict(self.rules, self.plan, "sure")[1]
        self.assertFalse(self.shows(book[1:] + book[:1]))
        self.assertFalse(self.shows(book[::-1]))
        self.assertFalse(self.shows([book[0]] + book[:0:-1]))
        rng, words = random.Random(25), []
        for _ in range(150):
            at, other = rng.randrange(1, len(book)), rng.randrange(1, len(book))
            changed = list(book)
            changed[at], changed[other] = book[other], book[at]
            words.append(self.shows(changed))
        self.assertEqual({True, False}, set(words))

    def test_rows_put_in(self):
        book = verdict(self.rules, self.plan, "sure")[1]
        known = [position for position, _ in book]
        others = [position for position in met(self.rules, self.plan, "sure") if position not in known]
        self.assertGreater(len(others), 5)
        for position in others:
            words = sayings_by_words(position)[:1] if at_list(self.plan, position) else ()
            self.assertFalse(self.shows([*book, (position, words)]))
            self.assertFalse(self.shows([book[0], (position, words), *book[1:]]))

    def test_sayings_that_are_changed(self):
        book = verdict(self.rules, self.plan, "sure")[1]
        wrong = [(), None, [], ("absent",) * 2, ("newest", "absent"), ("struck", "absent"), ("named",), (None,),
                 (True,), "absent", ["absent"], ("absent", "shown", "struck"), ("absent", ["struck"]), (("absent",),),
                 0, ((),)]
        for at, (position, words) in list(enumerate(book))[::3]:
            for other in [*wrong, ("absent",), ("struck",), ("shown",), ("newest",), words[::-1], words[:1],
                          tuple(SAYINGS), words + words[-1:], list(words)]:
                told = self.shows([*book[:at], (position, other), *book[at + 1:]])
                if other in wrong and words != other:
                    self.assertFalse(told, (position, other))

    def test_some_sayings_of_a_row_may_do(self):
        # Silence and "struck" leave all_lists as it is while nothing is shown.
        rules = [Rule.all_lists()]
        book = verdict(rules, "EL", "sure")[1]
        at = [number for number, (position, words) in enumerate(book)
              if words[:2] == ("absent", "struck") and position[0] == "mend"][0]
        position, words = book[at]
        for kept in (words, words[:1], words[1:]):
            value = [*book[:at], (position, kept), *book[at + 1:]]
            self.assertTrue(is_book_by_words(rules, "EL", "sure", value))
            self.assertIs(shows_book(rules, "EL", "sure", value), True)

    def test_a_saying_that_is_bad_or_leads_elsewhere(self):
        for rules, plan, question in games(26, 30):
            word, book = verdict(rules, plan, question)
            if word == "no":
                continue
            rng = random.Random(len(book))
            for _ in range(10):
                at = rng.randrange(len(book))
                position = book[at][0]
                words = tuple(said for said in sayings_by_words(position) if rng.random() < 0.6)
                value = [*book[:at], (position, words), *book[at + 1:]]
                self.assertIs(shows_book(rules, plan, question, value), is_book_by_words(rules, plan, question, value))

    def test_of_another_plan_or_question_or_other_rules(self):
        book = verdict(self.rules, self.plan, "sure")[1]
        for rules, plan, question in [(self.rules, "LEL", "sure"), (self.rules, "E", "same"), (APART, "ELL", "same"),
                                      (self.rules * 2, "ELL", "sure"), (self.rules, "ELLL", "sure")]:
            self.assertFalse(shows_book(rules, plan, question, book))
        # What is asked for "sure" is asked for "done", too.
        self.assertTrue(shows_book(self.rules, self.plan, "done", book))
        waiting = verdict([Rule.waiting()], "EL", "done")[1]
        self.assertFalse(shows_book([Rule.waiting()], "EL", "sure", waiting))

    def test_values_of_many_forms(self):
        book = verdict(self.rules, self.plan, "sure")[1]
        for value in [*VALUES, tuple(book), [list(row) for row in book], [(*row, ()) for row in book], [None, *book],
                      [*book, None], [*book, ()], dict(book), [row[:1] for row in book],
                      [(list(position), words) for position, words in book],
                      [((place[0], *[bool(n) for n in place[1:4]], place[4]), words) for place, words in book],
                      [(position, list(words)) for position, words in book], [book], (book,),
                      [([["rest"]], ()), *book], [*book, ([[]], ())]]:
            self.assertIs(shows_book(self.rules, self.plan, "sure", value), False, value)


class Warnings(unittest.TestCase):
    def both(self, rules, plan, question, value):
        told = shows_warnings(rules, plan, question, value)
        self.assertIs(told, are_warnings_by_words(rules, plan, question, value))
        defeat = shows_defeat(rules, plan, question, value)
        self.assertIs(defeat, is_defeat_by_words(rules, plan, question, value))
        return told, defeat

    def test_without_rows_and_without_the_start(self):
        self.assertEqual(self.both(APART, "EL", "same", []), (True, False))
        defeat = verdict(APART, "EL", "same")[1]
        self.assertEqual(self.both(APART, "EL", "same", defeat), (True, True))
        ahead = [row for row in defeat if row[0] != start_by_words(APART)]
        self.assertEqual(self.both(APART, "EL", "same", ahead), (True, False))
        lost = beaten([Rule.twice()], "ELL", "sure")
        self.assertGreater(len(lost), 5)
        self.assertEqual(self.both([Rule.twice()], "ELL", "sure", lost), (True, False))

    def test_rows_left_out_twice_or_in_another_sequence(self):
        for rules, plan, question in games(27, 30):
            word, defeat = verdict(rules, plan, question)
            if word == "yes":
                continue
            for at, row in enumerate(defeat):
                self.both(rules, plan, question, defeat[:at] + defeat[at + 1:])
                self.both(rules, plan, question, [row, *defeat[:at], *defeat[at + 1:]])
                self.both(rules, plan, question, defeat[:at] + defeat[at + 1:] + [row])
                self.assertEqual(self.both(rules, plan, question, [*defeat, row]), (False, False))
            if len(defeat) > 1:
                self.assertEqual(self.both(rules, plan, question, defeat[::-1]), (False, False))

    def test_each_row_of_a_defeat_is_needed(self):
        # A defeat of verdict holds what its play can come to, and no more.
        for rules, plan, question in games(27, 30):
            word, defeat = verdict(rules, plan, question)
            for at in range(len(defeat) if word == "no" else 0):
                told = self.both(rules, plan, question, defeat[:at] + defeat[at + 1:])
                self.assertFalse(told[1])

    def test_moves_that_are_changed(self):
        for rules, plan, question in games(28, 25):
            lost = beaten(rules, plan, question)[:12]
            for at, (position, move) in enumerate(lost):
                for other in [*ROLES, "rest", "go", "stop", "absent", None, True, ("go",), ["put"], 0, ""]:
                    told = self.both(rules, plan, question, [*lost[:at], (position, other), *lost[at + 1:]])
                    if other == move:
                        self.assertTrue(told[0])
                    elif position[0] == "rest" and other not in ROLES or position[0] != "rest" and other in ROLES:
                        self.assertFalse(told[0])

    def test_stops(self):
        # The stop at the second step of a put of heads and last_list leads to a beaten rest only if it has a row.
        rest, put = ("rest", 0, 0, 0, ((0, 0), (0, 0))), ("put", 0, 0, 0, ((0, 0), (0, 0)))
        rows = [(put, "go"), (rest, "put")]
        edit = ("other", 1, 0, 0, ((0, 0), (0, 0)))
        self.assertEqual(self.both(APART, "EL", "same", [*rows, (edit, "stop")]), (True, True))
        self.assertEqual(self.both(APART, "EL", "same", [rows[0], (edit, "stop"), rows[1]]), (False, False))
        self.assertEqual(self.both(APART, "EL", "same", [*rows, (("other", 0, *edit[2:]), "stop")]), (False, False))
        self.assertEqual(self.both(APART, "EL", "same", [*rows, (edit, "go")]), (True, True))
        self.assertEqual(self.both(APART, "EL", "same", [*rows, (("mend", 0, *edit[2:]), "stop")]), (False, False))

    def test_each_allowed_saying_counts(self):
        # "newest" shows the new entry; silence, "struck" and "shown" do not, so that the put is not done.
        rules, put = [Rule.all_lists()], ("put", 1, 1, 2, ((0, 0),))
        self.assertEqual(self.both(rules, "EL", "done", [(put, "go")]), (False, False))
        stuck = [Rule.all_lists().changed(0, "named", [((("x", "!=", "s"),), 0, "s", "k")])]
        self.assertEqual(self.both(stuck, "EL", "done", [(put, "go")]), (True, False))
        self.assertEqual(self.both(stuck, "EL", "same", [(put, "go")]), (False, False))

    def test_rows_put_in(self):
        rng = random.Random(29)
        for rules, plan, question in games(30, 20):
            lost = beaten(rules, plan, question)
            all_met = met(rules, plan, question)
            for _ in range(15):
                position = rng.choice(all_met)
                moves = ROLES if position[0] == "rest" else ["go", "stop"]
                at = rng.randrange(len(lost) + 1)
                self.both(rules, plan, question, [*lost[:at], (position, rng.choice(moves)), *lost[at:]])

    def test_positions_that_are_not_met_may_have_rows(self):
        place = ("put", 1, 0, 1, ((0, 1), (0, 1)))
        self.assertNotIn(place, met(APART, "EL", "same"))
        self.assertEqual(self.both(APART, "EL", "same", [(place, "go")]), (False, False))
        place = ("put", 0, 1, 2, ((0, 1), (0, 2)))
        self.assertNotIn(place, met(APART, "EL", "same"))
        self.assertEqual(self.both(APART, "EL", "same", [(place, "go"), (("rest", *place[1:]), "put")]), (True, False))

    def test_values_of_many_forms(self):
        defeat = verdict(APART, "EL", "same")[1]
        for value in [*VALUES, tuple(defeat), [list(row) for row in defeat], [(*row, ()) for row in defeat],
                      [None, *defeat], [*defeat, None], [*defeat, ()], dict(defeat),
                      [(list(position), move) for position, move in defeat],
                      [((position[0], False, *position[2:]), move) for position, move in defeat], [defeat],
                      [([["rest"]], "put"), *defeat], [*defeat, ("rest", "put")]]:
            self.assertIs(shows_defeat(APART, "EL", "same", value), False, value)
            self.assertIs(shows_warnings(APART, "EL", "same", value), value == [] and type(value) is list, value)


class WhatTheyMean(unittest.TestCase):
    def test_a_book_says_only_what_is_allowed(self):
        for rules, plan, question in games(31, 20):
            word, book = verdict(rules, plan, question)
            for position, words in book if word == "yes" else []:
                self.assertTrue(set(words) <= set(sayings_by_words(position)))
                if position[3] == 0:
                    self.assertIn(words, [(), ("absent",)])

    def test_no_rules_have_both(self):
        # Whoever says any of the allowed things against a defeat comes to a bad step, a follower of a book never does.
        rng = random.Random(32)
        for rules, plan, question in games(33, 30):
            word, paper = verdict(rules, plan, question)
            if word == "yes":
                self.assertEqual([row for row in paper if row[0] in dict(beaten(rules, plan, question))], [])
                self.assertFalse(shows_defeat(rules, plan, question, beaten(rules, plan, question)))
                continue
            moves = dict(paper)
            for _ in range(5):
                self.play(rng, rules, plan, question, moves)

    def play(self, rng, rules, plan, question, moves):
        here = start_by_words(rules)
        for _ in range(len(moves)):
            move = moves[here]
            if move in ROLES:
                here = demanded(here, move)
            elif move == "stop":
                here = stopped(here)
            else:
                here = step(rules, plan, question, here, rng.choice(due(plan, here)))
            if here is None:
                return
        self.fail("no step was bad")


class Errors(unittest.TestCase):
    def test_bad_rules_come_first(self):
        for value in NO_RULES:
            for function in FUNCTIONS:
                self.assertEqual(raised(function, value, "X", "none"), ("BadRules", {}), value)
                self.assertEqual(raised(function, value, "EL", "same"), ("BadRules", {}), value)
            for look in LOOKS:
                self.assertEqual(raised(look, value, "X", "none", []), ("BadRules", {}), value)

    def test_then_bad_plans(self):
        for value in NO_PLANS:
            for function in FUNCTIONS:
                self.assertEqual(raised(function, CHAIN, value, "none"), ("BadPlan", {}), value)
                self.assertEqual(raised(function, CHAIN, value, "same"), ("BadPlan", {}), value)
            for look in LOOKS:
                self.assertEqual(raised(look, CHAIN, value, "none", None), ("BadPlan", {}), value)

    def test_then_no_questions(self):
        for value in NO_QUESTIONS:
            for function in FUNCTIONS:
                name, told = raised(function, APART, "EL", value)
                self.assertEqual([name, list(told)], ["NoQuestion", ["word"]])
                self.assertIs(told["word"], value)
            for look in LOOKS:
                name, told = raised(look, APART, "EL", value, 5)
                self.assertEqual([name, list(told)], ["NoQuestion", ["word"]])
                self.assertIs(told["word"], value)


if __name__ == "__main__":
    unittest.main()
