"""Points 3, 20, 27 and 28 for twolistings.joins: archives of one book, put behind each other."""

import itertools
import random
import unittest

from plays import (QUESTIONS, ROLES, at_list, is_book_by_words, is_position_of_any, record_by_words, sayings_by_words,
                   some_rules, start_by_words, step_by_words)
from samples import KNOWN, NO_PLANS, NO_QUESTIONS, NO_RULES, VALUES, by_first_place, raised, state_after
from twolistings.archives import Archive
from twolistings.books import verdict
from twolistings.joins import joins_keep, shows_joins, shows_unjoined
from twolistings.least import greatest_book, thin_book
from twolistings.positions import position_of
from twolistings.rules import Rule

LISTS, CHAIN = [Rule.last_list(), Rule.all_lists()], [Rule.all_lists(), Rule.checking()]


def joined(position, tail):
    """A pair with the entries of a position and a tail replaced by numbers, as point 20 says."""
    (role, done, shown, newest, readers), (first, last, others) = position, tail
    told = [shown, newest, *[kept for _, kept in readers], first, last, *[kept for _, kept in others]]
    numbers = iter(by_first_place(told))
    own = (role, done, next(numbers), next(numbers), tuple((mode, next(numbers)) for mode, _ in readers))
    return own, next(numbers), next(numbers), tuple((mode, next(numbers)) for mode, _ in others)


def tail_by_words(rules, tail, event, entry):
    shown, newest, readers = tail
    states = [state_after(rule, (mode, shown, kept), event, entry) for rule, (mode, kept) in zip(rules, readers)]
    if len({state[1] for state in states}) > 1:
        return None
    return states[0][1], entry if event == "head" else newest, tuple((mode, kept) for mode, _, kept in states)


def pair_stepped(rules, plan, words, pair):
    """The pair after the next step of the second archive, None if the joined archives do not keep to the book."""
    position, *tail = pair
    role, done, shown, newest, readers = position
    if at_list(plan, position):
        event, entry = {"absent": ("absent", 0), "struck": ("struck", 0), "shown": ("named", shown),
                        "newest": ("named", newest)}[words[position][0]]
    else:
        event, entry = {"put": ("head", 99), "strike": ("strike", 0), "other": ("other", 0)}[role]
    own, whole = [tail_by_words(rules, told, event, entry) for told in ((shown, newest, readers), tail)]
    many = 1 if role == "mend" else len(plan)
    if whole is None:
        return None
    after = joined((role, done + 1, *own) if done + 1 < many else ("rest", 0, *own), whole)
    numbers = by_first_place([whole[0], whole[1], *[kept for _, kept in whole[2]]])
    at_rest = ("rest", 0, *numbers[:2], tuple(zip([mode for mode, _ in whole[2]], numbers[2:])))
    return after if at_rest in words else None


def pairs_after(rules, plan, words, pair):
    position, *tail = pair
    if position[0] == "rest":
        return [((role, 0, *position[2:]), *tail) for role in ROLES]
    stops = [(("rest", 0, *position[2:]), *tail)] if position[1] > 0 else []
    return [pair_stepped(rules, plan, words, pair), *stops]


def are_pairs_by_words(rules, plan, book, value):
    """Whether a list of pairs with positions of the book is one as point 20 says."""
    words = dict(book)
    for position, *tail in value:
        if position not in words or joined(position, tail) != (position, *tail):
            return False
        if joined(start_by_words(rules), tail)[1:] not in [place[2:] for place in words if place[0] == "rest"]:
            return False
    if len(set(value)) < len(value):
        return False
    first = [(start_by_words(rules), *position[2:]) for position, _ in book if position[0] == "rest"]
    after = [told for pair in value for told in pairs_after(rules, plan, words, pair)]
    return set(first) | set(after) <= set(value)


def drawn_deeds(rng, plan, count):
    roles = [rng.choice(ROLES) for _ in range(count)]
    return [(role, 1 if role == "mend" else rng.randrange(1, len(plan) + 1)) for role in roles]


def written_by_book(rules, plan, book, deeds):
    """The records that deeds with a book's sayings give, each one step after the other."""
    words, records, here = dict(book), [], start_by_words(rules)
    for role, steps in deeds:
        for done in range(steps):
            here = (role, done, *here[2:])
            saying = words[here][0] if words[here] else None
            records.append(record_by_words(records, rules, here, saying))
            here = step_by_words(rules, plan, "same", here, saying)
    return records


def keeps(rules, book, records):
    """Whether behind records the readers show the same for "a", at a position at rest that has a row."""
    rests = [position for position, _ in book if position[0] == "rest"]
    return raised(position_of, rules, Archive(records), "a") is None and (
        position_of(rules, Archive(records), "a") in rests)


def is_unjoined_by_words(rules, plan, book, first, second):
    """Whether the first record of the second archive after which joins do not keep is its last one."""
    one, other = [written_by_book(rules, plan, book, deeds) for deeds in (first, second)]
    wrong = [size for size in range(1, len(other) + 1) if not keeps(rules, book, one + other[:size])]
    return wrong[:1] == [len(other)] and len(other) > 0


def books(seed, count):
    """Games with books of at most one saying a row: thin ones, and others that say something else."""
    rng = random.Random(seed)
    games = [([rule], plan, question) for rule in KNOWN.values() for plan in ("EL", "LEL") for question in QUESTIONS]
    games += [([KNOWN[one], KNOWN[other]], "EL", question) for question in ("same", "sure")
              for one, other in itertools.combinations(["last_list", "all_lists", "waiting", "checking"], 2)]
    games += [(rules, rng.choice(["EL", "LEL"]), QUESTIONS[number % 3])
              for number, rules in enumerate(some_rules(seed, 20))]
    for rules, plan, question in rng.sample(games, count):
        if verdict(rules, plan, question)[0] == "yes":
            yield rules, plan, question, thin_book(rules, plan, question)[0]
            book = other_book(rng, rules, plan, question)
            yield rules, plan, question, book


def other_book(rng, rules, plan, question):
    """A book with one drawn saying a row."""
    words = {position: (rng.choice(said),) if said else () for position, said in greatest_book(rules, plan, question)}
    book, left = {}, [start_by_words(rules)]
    while left:
        position = left.pop(0)
        if position not in book:
            book[position] = words[position]
            if position[0] == "rest":
                left += [(role, 0, *position[2:]) for role in ROLES]
            else:
                left.append(step_by_words(rules, plan, question, position, (words[position] or [None])[0]))
                left += [("rest", 0, *position[2:])] if position[1] else []
    return list(book.items())


class Joins(unittest.TestCase):
    def look_over(self, rules, plan, question, book):
        told = joins_keep(rules, plan, question, book)
        self.assertIs(type(told), tuple)
        if told[0] == "yes":
            self.assertEqual([len(told), type(told[1])], [2, list])
            self.assertTrue(are_pairs_by_words(rules, plan, book, told[1]))
            self.assertIs(shows_joins(rules, plan, question, book, told[1]), True)
        else:
            self.assertEqual([told[0], len(told), type(told[1]), type(told[2])], ["no", 3, list, list])
            self.assertTrue(is_unjoined_by_words(rules, plan, book, *told[1:]), told)
            self.assertIs(shows_unjoined(rules, plan, question, book, *told[1:]), True)
        return told[0]

    def test_example(self):
        words = [joins_keep(rules, "EL", "sure", thin_book(rules, "EL", "sure")[0])[0] for rules in (LISTS, CHAIN)]
        self.assertEqual(words, ["no", "yes"])

    def test_where_the_interface_is_defined(self):
        for value in (joins_keep, shows_joins, shows_unjoined):
            self.assertEqual(value.__module__, "twolistings.joins")

    def test_known_rules(self):
        # Each known rule alone keeps to its thin book; the last list parts from others behind a join.
        for name, plan in [("heads", "E"), ("last_list", "EL"), ("all_lists", "EL"), ("checking", "EL"),
                           ("twice", "ELL"), ("primed", "LEL")]:
            for question in QUESTIONS:
                book = thin_book([KNOWN[name]], plan, question)[0]
                self.assertEqual(self.look_over([KNOWN[name]], plan, question, book), "yes")
        words = {}
        for names in itertools.combinations(["last_list", "all_lists", "checking"], 2):
            rules = [KNOWN[name] for name in names]
            words[names] = self.look_over(rules, "EL", "sure", thin_book(rules, "EL", "sure")[0])
        self.assertEqual(list(words.values()), ["no", "no", "yes"])

    def test_both_words_over_many_books(self):
        words = [self.look_over(*game) for game in books(91, 45)]
        self.assertGreater(min(words.count("yes"), words.count("no")), 4)

    def test_archives_of_drawn_deeds(self):
        # Where joins keep, no drawn archives show otherwise; where they do not, the look of the tests' own decides.
        rng = random.Random(92)
        for rules, plan, question, book in books(93, 30):
            word = joins_keep(rules, plan, question, book)[0]
            for _ in range(6):
                first, second = [drawn_deeds(rng, plan, rng.randrange(5)) for _ in range(2)]
                expected = is_unjoined_by_words(rules, plan, book, first, second)
                self.assertIs(shows_unjoined(rules, plan, question, book, first, second), expected)
                if word == "yes":
                    self.assertFalse(expected)

    def test_sums_of_several_archives(self):
        rng = random.Random(94)
        book = thin_book(CHAIN, "EL", "sure")[0]
        for _ in range(25):
            records = []
            for _ in range(4):
                more = written_by_book(CHAIN, "EL", book, drawn_deeds(rng, "EL", 4))
                for size in range(len(more) + 1):
                    self.assertTrue(keeps(CHAIN, book, records + more[:size]))
                records += more

    def test_a_mend_behind_a_whole_put(self):
        # The second archive knows of no name, so that its list is silent, and the last list shows none.
        book = thin_book(LISTS, "EL", "sure")[0]
        self.assertIs(shows_unjoined(LISTS, "EL", "sure", book, [("put", 2)], [("mend", 1)]), True)
        self.assertIs(shows_unjoined(LISTS, "EL", "sure", book, [], [("mend", 1)]), False)
        self.assertIs(shows_unjoined(LISTS, "EL", "sure", book, [("put", 1)], [("mend", 1)]), False)
        self.assertIs(shows_unjoined(LISTS, "EL", "sure", book, [("put", 2), ("strike", 2)], [("mend", 1)]), False)

    def test_a_place_that_is_not_in_the_book(self):
        # All readers show the same, but the name is at a position that no archive of the book alone comes to.
        found = 0
        for rules, plan, question, book in books(95, 40):
            told = joins_keep(rules, plan, question, book)
            if told[0] == "no":
                records = [written_by_book(rules, plan, book, deeds) for deeds in told[1:]]
                if raised(position_of, rules, Archive(records[0] + records[1]), "a") is None:
                    found += 1
        self.assertGreater(found, 0)

    def test_the_same_again_and_what_is_handed_in_stays(self):
        book = thin_book(CHAIN, "EL", "sure")[0]
        kept = list(book)
        told = joins_keep(CHAIN, "EL", "sure", book)
        joins_keep(LISTS, "EL", "sure", thin_book(LISTS, "EL", "sure")[0])
        again = joins_keep(book=book, question="sure", plan="EL", rules=CHAIN)
        self.assertEqual(told, again)
        self.assertIsNot(told[1], again[1])
        self.assertEqual(book, kept)


class Pairs(unittest.TestCase):
    def setUp(self):
        self.book = thin_book(CHAIN, "EL", "sure")[0]
        self.pairs = joins_keep(CHAIN, "EL", "sure", self.book)[1]

    def shows(self, value):
        return shows_joins(CHAIN, "EL", "sure", self.book, value)

    def test_any_order_will_do(self):
        self.assertIs(self.shows(self.pairs), True)
        self.assertIs(self.shows(self.pairs[::-1]), True)
        self.assertIs(self.shows(sorted(self.pairs)), True)

    def test_one_left_out_or_twice(self):
        for at, pair in enumerate(self.pairs):
            self.assertIs(self.shows(self.pairs[:at] + self.pairs[at + 1:]), False)
            self.assertIs(self.shows([*self.pairs, pair]), False)
        self.assertIs(self.shows([]), False)

    def test_one_that_is_changed_or_turned_about(self):
        for at, (position, shown, newest, readers) in list(enumerate(self.pairs))[::3]:
            wrong = [(position, newest, shown, readers), (position, shown + 1, newest, readers),
                     (position, shown, newest),
                     (position, shown, newest, readers[::-1]), (shown, newest, readers, position),
                     (("rest", 0, shown, newest, readers), *position[2:]), [position, shown, newest, readers],
                     (position, shown, newest, list(readers)), (list(position), shown, newest, readers),
                     (position, bool(shown), newest, readers), (position, shown, newest, readers, ())]
            for other in wrong:
                if other != self.pairs[at] or type(other[1]) is bool:
                    self.assertIs(self.shows([*self.pairs[:at], other, *self.pairs[at + 1:]]), False, other)

    def test_one_that_is_put_in(self):
        position, shown, newest, readers = self.pairs[0]
        for other in [*VALUES, (position, shown, newest, readers[:1]), (position, shown, newest, (*readers, (0, 0))),
                      (position, 2, 2, readers), (position, -1, 0, readers), (position, "0", 0, readers),
                      (position, 0, 0, ((1, 0), (0, 0))), (position, 0, 0, ((0, 1), (0, 1))),
                      (position, 0, 0, ((0,), (0, 0))),
                      (position, 0, 0, ((False, 0), (0, 0))), (position, 0, 0, (([], 0), (0, 0))),
                      (position, 0, 0, ((0, []), (0, 0))), (position, 0, 0, ((0, 0, 0), (0, 0))),
                      (("put", 1, 0, 0, readers), 0, 0, readers), (("rest", 1, 0, 0, readers), 0, 0, readers)]:
            for value in ([*self.pairs, other], [other, *self.pairs]):
                self.assertIs(self.shows(value), False, other)

    def test_pairs_that_do_not_come_may_stand_if_what_comes_of_them_does(self):
        # At rest with other entries, and all that comes of it.
        rng, found = random.Random(96), []
        words = dict(self.book)
        rests = [position for position in words if position[0] == "rest"]
        for position, (_, _, *tail) in itertools.product(rests, rests):
            shift = [tail[0] and tail[0] + 5, tail[1] and tail[1] + 5,
                     tuple((mode, kept and kept + 5) for mode, kept in tail[2])]
            more, left = list(self.pairs), [joined(position, shift)]
            while left and len(more) < 600:
                pair = left.pop()
                if pair is not None and pair not in more:
                    more.append(pair)
                    left += pairs_after(CHAIN, "EL", words, pair)
            rng.shuffle(more)
            found.append(self.shows(more))
            self.assertIs(found[-1], are_pairs_by_words(CHAIN, "EL", self.book, more))
        self.assertIn(True, found)

    def test_a_position_that_has_no_row(self):
        zero = ((0, 0), (0, 0))
        places = [("rest", 0, 0, 0, zero), ("rest", 0, 0, 1, ((0, 1), (0, 1))), ("put", 1, 1, 2, ((0, 1), (0, 2)))]
        for position in places:
            if position not in dict(self.book):
                self.assertTrue(is_position_of_any(CHAIN, "EL", position))
                self.assertIs(self.shows([*self.pairs, (position, 0, 0, zero)]), False)

    def test_the_whole_at_rest_has_a_row(self):
        # Each list makes this rule forget what it kept, so that whatever comes of a stray pair has a row again.
        rule = Rule.last_list()
        for event, shown in (("named", "x"), ("struck", "o"), ("absent", "o")):
            rule = rule.changed(0, event, [((), 0, shown, "o")])
        book = thin_book([rule], "LEL", "sure")[0]
        pairs = joins_keep([rule], "LEL", "sure", book)[1]
        first = start_by_words([rule])
        for tail, expected in (((0, 1, ((0, 0),)), True), ((0, 1, ((0, 1),)), False), ((0, 2, ((0, 1),)), False)):
            stray = [((role, *first[1:]), *tail) for role in ("rest", *ROLES)]
            value = pairs + [pair for pair in stray if pair not in pairs]
            self.assertIs(shows_joins([rule], "LEL", "sure", book, value), expected)
            self.assertIs(are_pairs_by_words([rule], "LEL", book, value), expected)

    def test_values_of_many_forms(self):
        for value in [*VALUES, tuple(self.pairs), dict(self.book), self.book, [self.pairs],
                      [list(pair) for pair in self.pairs]]:
            self.assertIs(self.shows(value), False)
        self.assertIs(shows_joins(value=self.pairs, book=self.book, question="sure", plan="EL", rules=CHAIN), True)

    def test_of_another_book(self):
        other = thin_book(LISTS, "EL", "sure")[0]
        self.assertIs(shows_joins(LISTS, "EL", "sure", other, self.pairs), False)


class Deeds(unittest.TestCase):
    def setUp(self):
        self.book = thin_book(LISTS, "EL", "sure")[0]
        self.first, self.second = [("other", 1), ("put", 2)], [("put", 1), ("mend", 1)]

    def shows(self, first, second):
        return shows_unjoined(LISTS, "EL", "sure", self.book, first, second)

    def test_cut_gone_on_or_exchanged(self):
        self.assertIs(self.shows([("put", 2)], [("mend", 1)]), True)
        first, second = [("strike", 2), ("put", 2)], [("other", 1), ("mend", 1)]
        self.assertIs(self.shows(first, second), True)
        for one, other in [(first, second[:1]), (first, second[1:] * 2), (first, [*second, ("mend", 1)]),
                           (second, first), (first[:1], second), (first, []), ([], second), (first, first),
                           (first, second + [("put", 1)]), (first[::-1], second), (first, [("other", 2), ("mend", 1)])]:
            self.assertIs(self.shows(one, other), is_unjoined_by_words(LISTS, "EL", self.book, one, other))
            self.assertIs(self.shows(one, other), False)
        self.assertIs(self.shows(first, [("other", 2)]), True)

    def test_deeds_that_are_none(self):
        first, second = [("put", 2)], [("mend", 1)]
        wrong = [*VALUES, ("put", 3), ("put", 0), ("mend", 2), ("rest", 1), ("put", True), ("put", 1, 1), ["put", 1],
                 ("put",)]
        for value in wrong:
            self.assertIs(self.shows([value, *first], second), False)
            self.assertIs(self.shows(first, [value, *second]), False)
            self.assertIs(self.shows(first, [*second, value]), False)
            if value != []:
                self.assertIs(self.shows(value, second), False)
            self.assertIs(self.shows(first, value), False)
        self.assertIs(self.shows(tuple(first), second), False)
        self.assertIs(self.shows(first, tuple(second)), False)
        told = shows_unjoined(second=second, first=first, book=self.book, question="sure", plan="EL", rules=LISTS)
        self.assertIs(told, True)


class Errors(unittest.TestCase):
    def calls(self, *given):
        return [(joins_keep, given), (shows_joins, (*given, 5)), (shows_unjoined, (*given, 5, None))]

    def test_bad_rules_then_bad_plans_then_no_questions(self):
        for value in NO_RULES:
            for call, given in self.calls(value, "X", "none", None):
                self.assertEqual(raised(call, *given), ("BadRules", {}), value)
        for value in NO_PLANS:
            for call, given in self.calls(LISTS, value, "none", None):
                self.assertEqual(raised(call, *given), ("BadPlan", {}), value)
        for value in NO_QUESTIONS:
            for call, given in self.calls(LISTS, "EL", value, None):
                name, told = raised(call, *given)
                self.assertEqual([name, list(told)], ["NoQuestion", ["word"]])
                self.assertIs(told["word"], value)

    def test_no_book(self):
        book = thin_book(LISTS, "EL", "sure")[0]
        for value in [*VALUES, tuple(book), book[1:], book[:-1], [*book, book[0]], [list(row) for row in book],
                      dict(book),
                      book[::-1], [*book, None]]:
            for call, given in self.calls(LISTS, "EL", "sure", value):
                self.assertEqual(raised(call, *given), ("NoBook", {}))
        for rules, plan, question in [(CHAIN, "EL", "sure"), (LISTS, "ELL", "sure"), (LISTS * 2, "EL", "sure")]:
            for call, given in self.calls(rules[:3], plan, question, book):
                self.assertEqual(raised(call, *given), ("NoBook", {}))

    def test_a_row_with_two_sayings(self):
        rules = [Rule.all_lists()]
        book = thin_book(rules, "EL", "sure")[0]
        greatest = greatest_book(rules, "EL", "sure")
        self.assertTrue(is_book_by_words(rules, "EL", "sure", greatest))
        for call, given in self.calls(rules, "EL", "sure", greatest):
            self.assertEqual(raised(call, *given), ("NoBook", {}))
        more = dict(greatest)
        found = 0
        for at, (position, words) in enumerate(book):
            two = tuple(word for word in sayings_by_words(position) if word in more[position])[:2]
            louder = [*book[:at], (position, two), *book[at + 1:]]
            if len(two) == 2 and is_book_by_words(rules, "EL", "sure", louder):
                found += 1
                for call, given in self.calls(rules, "EL", "sure", louder):
                    self.assertEqual(raised(call, *given), ("NoBook", {}))
        self.assertGreater(found, 3)


if __name__ == "__main__":
    unittest.main()
