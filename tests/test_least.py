"""Points 2, 3, 18, 27 and 28 for twolistings.least: the least plan, the greatest book and thin books."""

import random
import unittest

from plays import (QUESTIONS, are_warnings_by_words, at_list, beaten_by_words, is_book_by_words, is_defeat_by_words,
                   sayings_by_words, some_rules, start_by_words, step_by_words)
from samples import KNOWN, NO_PLANS, NO_QUESTIONS, NO_RULES, VALUES, raised
from twolistings.books import beaten, verdict
from twolistings.least import greatest_book, least_plan, shows_least, shows_thin, thin_book
from twolistings.rules import Rule

PLANS = ["E", "EL", "LE", "ELL", "LEL", "LLE"]
CHAIN = [Rule.last_list(), Rule.all_lists(), Rule.checking()]
APART = [Rule.heads(), Rule.last_list()]
TWICE = [Rule.twice()]


def games(seed, count):
    rng = random.Random(seed)
    for number, rules in enumerate(some_rules(seed, count)):
        yield rules, rng.choice(["E", "EL", "ELL", "LEL", "LLE", "LELL"]), QUESTIONS[number % 3]


def is_thin_by_words(rules, plan, question, value):
    """Whether a tuple of two is a thin book and its warnings, by the words of point 18."""
    book, warnings = value
    if not is_book_by_words(rules, plan, question, book):
        return False
    if not are_warnings_by_words(rules, plan, question, warnings):
        return False
    warned = [position for position, _ in warnings]
    for position, words in book:
        if at_list(plan, position):
            silent = step_by_words(rules, plan, question, position, "absent")
            if len(words) != 1 or words != ("absent",) and not (silent is None or silent in warned):
                return False
    return True


class LeastPlans(unittest.TestCase):
    def look_over(self, rules, question):
        told = least_plan(rules, question)
        self.assertIs(type(told), tuple)
        if told[0] == "yes":
            _, plan, book, defeats = told
            self.assertTrue(is_book_by_words(rules, plan, question, book))
            ahead = PLANS[:PLANS.index(plan)]
        else:
            _, defeats = told
            ahead = PLANS
        self.assertIs(type(defeats), list)
        self.assertEqual(len(defeats), len(ahead))
        for plan, defeat in zip(ahead, defeats):
            self.assertTrue(is_defeat_by_words(rules, plan, question, defeat))
        self.assertIs(shows_least(rules, question, told), True)
        return told[1] if told[0] == "yes" else None

    def test_example(self):
        rules = (Rule.heads(), Rule.all_lists(), Rule.twice(), Rule.primed())
        self.assertEqual([least_plan([rule], "sure")[:2] for rule in rules],
                         [("yes", "E"), ("yes", "EL"), ("yes", "ELL"), ("yes", "LEL")])
        self.assertEqual(least_plan([Rule.waiting()], "sure")[0], "no")
        self.assertEqual(thin_book([Rule.heads()], "E", "sure")[0][0], (("rest", 0, 0, 0, ((0, 0),)), ()))

    def test_where_the_interface_is_defined(self):
        for value in (least_plan, greatest_book, thin_book, shows_least, shows_thin):
            self.assertEqual(value.__module__, "twolistings.least")

    def test_known_rules_alone(self):
        plans = {name: [self.look_over([rule], question) for question in QUESTIONS] for name, rule in KNOWN.items()}
        self.assertEqual(plans, {
            "heads": ["E"] * 3, "last_list": ["E", "EL", "EL"], "all_lists": ["E", "EL", "EL"],
            "checking": ["E", "EL", "EL"], "twice": ["E", "ELL", "ELL"], "primed": ["E", "LEL", "LEL"],
            "waiting": ["E", "EL", None],
        })

    def test_known_rules_together(self):
        self.assertEqual(self.look_over(CHAIN, "sure"), "EL")
        self.assertEqual(self.look_over([Rule.last_list(), Rule.twice()], "sure"), None)
        for question in QUESTIONS:
            self.assertIsNone(self.look_over(APART, question))

    def test_many_rules(self):
        plans = [self.look_over(rules, QUESTIONS[number % 3]) for number, rules in enumerate(some_rules(41, 20))]
        self.assertGreater(len(set(plans)), 3)

    def test_the_same_question_again_and_new_lists(self):
        rules = [Rule.all_lists()]
        told = least_plan(rules, "sure")
        kept = (told[0], told[1], list(told[2]), [list(defeat) for defeat in told[3]])
        least_plan(APART, "done")
        told[2].clear()
        told[3][0].clear()
        told[3].clear()
        self.assertEqual(least_plan(rules, "sure"), kept)
        self.assertEqual(rules, [Rule.all_lists()])

    def test_by_name(self):
        self.assertEqual(least_plan(question="sure", rules=TWICE), least_plan(TWICE, "sure"))
        self.assertIs(shows_least(value=least_plan(TWICE, "sure"), question="sure", rules=TWICE), True)


class ShowsLeast(unittest.TestCase):
    def test_parts_left_out_or_exchanged(self):
        word, plan, book, defeats = least_plan(TWICE, "sure")
        self.assertEqual([word, plan, len(defeats)], ["yes", "ELL", 3])
        self.assertIs(shows_least(TWICE, "sure", (word, plan, list(book), list(defeats))), True)
        wrong = [
            (word, plan, book), (word, plan, defeats), (word, book, defeats), (word, plan, defeats, book),
            (word, plan, book, defeats, []), (word, plan, book, defeats[:2]), (word, plan, book, defeats[1:]),
            (word, plan, book, defeats[::-1]), (word, plan, book, [*defeats, defeats[0]]), (word, plan, book, []),
            (word, plan, book[:-1], defeats), (word, plan, [], defeats), (word, "LEL", book, defeats),
            (word, "E", book, []), (word, "EL", book, defeats[:1]), (word, "LELL", book, defeats),
            (word, "ELLL", book, defeats), (word, ["ELL"], book, defeats), (word, None, book, defeats),
            ("no", plan, book, defeats), ("no", defeats), ("no", [*defeats, defeats[0]] * 2), ("yes", defeats),
            [word, plan, book, defeats], (True, plan, book, defeats), (word, plan, tuple(book), defeats),
            (word, plan, book, tuple(defeats)), (word, plan, book, [*defeats[:2], defeats[2][:-1]]),
            (word, plan, book, [[], *defeats[1:]]), (word, plan, book, [None, *defeats[1:]]),
        ]
        for value in wrong:
            self.assertIs(shows_least(TWICE, "sure", value), False, value)

    def test_six_defeats(self):
        word, defeats = least_plan(APART, "same")
        self.assertEqual([word, len(defeats)], ["no", 6])
        self.assertIs(shows_least(APART, "same", (word, [list(defeat) for defeat in defeats])), True)
        for value in [(word, defeats[:5]), (word, defeats[1:]), (word, [*defeats, defeats[0]]), (word, []),
                      (word, defeats[::-1]), (word, tuple(defeats)), [word, defeats], ("yes", defeats), (defeats, word),
                      (word, [*defeats[:5], defeats[5][1:]]), (word, defeats, defeats), (word,),
                      (word, defeats, [], []), ("No", defeats), (["no"], defeats)]:
            self.assertIs(shows_least(APART, "same", value), False, value)

    def test_another_plan_or_question_or_other_rules(self):
        told = least_plan(TWICE, "sure")
        self.assertIs(shows_least(TWICE, "done", told), True)
        self.assertIs(shows_least(TWICE, "same", told), False)
        self.assertIs(shows_least([Rule.all_lists()], "sure", told), False)
        self.assertIs(shows_least(APART, "sure", told), False)
        # A book for a plan that is not the least one.
        _, _, book, defeats = least_plan([Rule.all_lists()], "sure")
        later = verdict([Rule.all_lists()], "ELL", "sure")[1]
        self.assertIs(shows_least([Rule.all_lists()], "sure", ("yes", "ELL", later, defeats * 3)), False)
        self.assertIs(shows_least([Rule.all_lists()], "sure", ("yes", "EL", later, defeats)), False)

    def test_values_of_many_forms(self):
        for value in VALUES:
            self.assertIs(shows_least(TWICE, "sure", value), False)
            for other in [("no", value), ("no", [value] * 6), ("yes", value, [], []), ("yes", "E", value, []),
                          (value, "E", [], []), ("yes", "E", [], value), (value, [])]:
                self.assertIs(shows_least(TWICE, "sure", other), False)


class GreatestBooks(unittest.TestCase):
    def test_each_position_with_all_sayings_that_are_not_beaten(self):
        for rules, plan, question in games(42, 30):
            lost = beaten_by_words(rules, plan, question)
            if start_by_words(rules) in lost:
                self.assertEqual(raised(greatest_book, rules, plan, question), ("NoBook", {}))
                continue
            book = greatest_book(rules, plan, question)
            self.assertTrue(is_book_by_words(rules, plan, question, book))
            for position, words in book:
                if at_list(plan, position):
                    ways = [(word, step_by_words(rules, plan, question, position, word))
                            for word in sayings_by_words(position)]
                    kept = tuple(word for word, after in ways if after is not None and after not in lost)
                    self.assertEqual(words, kept)

    def test_the_rows_of_each_book_are_in_it(self):
        for rules, plan, question in games(43, 30):
            word, book = verdict(rules, plan, question)
            if word == "no":
                continue
            greatest = dict(greatest_book(rules, plan, question))
            for other in (book, thin_book(rules, plan, question)[0]):
                for position, words in other:
                    self.assertLessEqual(set(words), set(greatest[position]))

    def test_no_further_saying_can_be_put_in(self):
        rules = [Rule.all_lists()]
        book = greatest_book(rules, "EL", "sure")
        added = 0
        for at, (position, words) in enumerate(book):
            for saying in sayings_by_words(position) if at_list("EL", position) else ():
                more = tuple(word for word in ("absent", "struck", "shown", "newest") if word in (*words, saying))
                if more != words:
                    added += 1
                    value = [*book[:at], (position, more), *book[at + 1:]]
                    self.assertFalse(is_book_by_words(rules, "EL", "sure", value))
        self.assertGreater(added, 3)

    def test_a_book_beside_beaten_positions(self):
        lost = {position for position, _ in beaten(TWICE, "ELL", "sure")}
        book = greatest_book(TWICE, "ELL", "sure")
        self.assertGreater(len(lost), 0)
        self.assertEqual(lost & {position for position, _ in book}, set())

    def test_new_lists_and_names(self):
        first = greatest_book(question="sure", plan="ELL", rules=TWICE)
        kept = list(first)
        first.clear()
        greatest_book(CHAIN, "EL", "same")
        self.assertEqual(greatest_book(TWICE, "ELL", "sure"), kept)


class ThinBooks(unittest.TestCase):
    def test_thin_books_of_many_games(self):
        many = 0
        for rules, plan, question in games(44, 40):
            if verdict(rules, plan, question)[0] == "no":
                self.assertEqual(raised(thin_book, rules, plan, question), ("NoBook", {}))
                continue
            many += 1
            told = thin_book(rules, plan, question)
            self.assertEqual([type(told), len(told), type(told[0]), type(told[1])], [tuple, 2, list, list])
            self.assertTrue(is_thin_by_words(rules, plan, question, told))
            self.assertIs(shows_thin(rules, plan, question, told), True)
            greatest = dict(greatest_book(rules, plan, question))
            for position, words in told[0]:
                # It is silent wherever a book can be silent.
                self.assertEqual(words == ("absent",), "absent" in greatest[position])
        self.assertGreater(many, 10)

    def test_the_warnings_count(self):
        book, warnings = thin_book(TWICE, "ELL", "sure")
        self.assertIs(shows_thin(TWICE, "ELL", "sure", (book, warnings)), True)
        self.assertIs(shows_thin(TWICE, "ELL", "sure", (book, [])), False)
        words = []
        for at in range(len(warnings)):
            value = (book, warnings[:at] + warnings[at + 1:])
            words.append(shows_thin(TWICE, "ELL", "sure", value))
            self.assertIs(words[-1], is_thin_by_words(TWICE, "ELL", "sure", value))
        self.assertIn(False, words)
        turned = (book, warnings[::-1])
        self.assertIs(shows_thin(TWICE, "ELL", "sure", turned), is_thin_by_words(TWICE, "ELL", "sure", turned))
        self.assertIs(shows_thin(TWICE, "ELL", "sure", (book, warnings + warnings[:1])), False)

    def test_a_book_that_says_more_than_it_must(self):
        # For "sure" all_lists may always be told again what it shows, but it need not.
        rules = [Rule.all_lists()]
        book, warnings = thin_book(rules, "EL", "sure")
        at = [number for number, (position, _) in enumerate(book) if position[:3] == ("mend", 0, 1)][0]
        self.assertEqual(book[at][1], ("absent",))
        louder = [*book[:at], (book[at][0], ("shown",)), *book[at + 1:]]
        self.assertTrue(is_book_by_words(rules, "EL", "sure", louder))
        self.assertIs(shows_thin(rules, "EL", "sure", (louder, warnings)), False)

    def test_more_than_one_saying_a_row(self):
        book = greatest_book(TWICE, "ELL", "sure")
        warnings = beaten(TWICE, "ELL", "sure")
        self.assertGreater(max(len(words) for _, words in book), 1)
        self.assertIs(shows_thin(TWICE, "ELL", "sure", (book, warnings)), False)
        rules = [Rule.heads()]
        book = greatest_book(rules, "E", "sure")
        silent = [(position, words[:1]) for position, words in book]
        self.assertIs(shows_thin(rules, "E", "sure", (book, [])), False)
        self.assertIs(shows_thin(rules, "E", "sure", (silent, [])), True)

    def test_two_sayings_in_one_row(self):
        rules = [Rule.all_lists()]
        book, warnings = thin_book(rules, "EL", "sure")
        greatest = dict(greatest_book(rules, "EL", "sure"))
        tried = 0
        for at, (position, words) in enumerate(book):
            if len(greatest[position]) > 1:
                more = [*book[:at], (position, greatest[position][:2]), *book[at + 1:]]
                if is_book_by_words(rules, "EL", "sure", more):
                    tried += 1
                    self.assertIs(shows_thin(rules, "EL", "sure", (more, warnings)), False)
        self.assertGreater(tried, 3)

    def test_last_list_is_told_all_that_it_shows(self):
        book, warnings = thin_book([Rule.last_list()], "EL", "sure")
        for position, words in book:
            if at_list("EL", position):
                done, shown, newest = position[1:4]
                if position[0] == "put" and done == 1:
                    self.assertEqual(words, ("newest",))
                elif position[0] != "strike":
                    self.assertEqual(words[0] == "absent", shown == 0)
        self.assertIs(shows_thin([Rule.last_list()], "EL", "sure", (book, warnings)), True)

    def test_parts_exchanged_or_of_another_game(self):
        book, warnings = thin_book(TWICE, "ELL", "sure")
        for value in [(warnings, book), [book, warnings], (book,), (book, warnings, []), (book[:-1], warnings),
                      (book, tuple(warnings)), (tuple(book), warnings), (book, None), (None, warnings), ([], warnings),
                      (book, [None]), ([None], warnings)]:
            self.assertIs(shows_thin(TWICE, "ELL", "sure", value), False)
        for rules, plan, question in [(TWICE, "LEL", "sure"), (CHAIN, "ELL", "sure"), (TWICE * 2, "ELL", "sure")]:
            self.assertIs(shows_thin(rules, plan, question, (book, warnings)), False)
        # For "same" each list may be silent, so that this book says too much.
        self.assertIs(shows_thin(TWICE, "ELL", "same", (book, warnings)), False)

    def test_values_of_many_forms(self):
        book, warnings = thin_book(TWICE, "ELL", "sure")
        for value in VALUES:
            for other in (value, (book, value) if value != [] else None, (value, warnings), (value, value)):
                self.assertIs(shows_thin(TWICE, "ELL", "sure", other), False)

    def test_new_lists_and_names(self):
        book, warnings = thin_book(question="sure", plan="ELL", rules=TWICE)
        kept = (list(book), list(warnings))
        book.clear()
        warnings.clear()
        thin_book(CHAIN, "EL", "same")
        self.assertEqual(thin_book(TWICE, "ELL", "sure"), kept)
        self.assertIs(shows_thin(value=kept, question="sure", plan="ELL", rules=TWICE), True)


class Errors(unittest.TestCase):
    def test_bad_rules_come_first(self):
        for value in NO_RULES:
            for call, more in ((least_plan, ("none",)), (shows_least, ("none", 5)), (greatest_book, ("X", "none")),
                               (thin_book, ("X", "none")), (shows_thin, ("X", "none", 5)), (thin_book, ("LE", "sure"))):
                self.assertEqual(raised(call, value, *more), ("BadRules", {}), value)

    def test_then_bad_plans(self):
        for value in NO_PLANS:
            for call, more in ((greatest_book, ()), (thin_book, ()), (shows_thin, (5,))):
                for question in ("none", "sure"):
                    self.assertEqual(raised(call, APART, value, question, *more), ("BadPlan", {}), value)

    def test_then_no_questions(self):
        for value in NO_QUESTIONS:
            for call, given in ((least_plan, (APART, value)), (shows_least, (APART, value, 5)),
                                (greatest_book, (APART, "EL", value)), (thin_book, (APART, "EL", value)),
                                (shows_thin, (APART, "EL", value, 5))):
                name, told = raised(call, *given)
                self.assertEqual([name, list(told)], ["NoQuestion", ["word"]])
                self.assertIs(told["word"], value)

    def test_then_no_book(self):
        for call in (greatest_book, thin_book):
            for question in QUESTIONS:
                self.assertEqual(raised(call, APART, "EL", question), ("NoBook", {}))
            self.assertEqual(raised(call, [Rule.waiting()], "EL", "sure"), ("NoBook", {}))
            self.assertIsNone(raised(call, [Rule.waiting()], "EL", "done"))


if __name__ == "__main__":
    unittest.main()
