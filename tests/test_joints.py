"""Points 3, 10, 27 and 28 for twolistings.joints: joint states, rules that show the same or part, lines."""

import itertools
import random
import unittest

from samples import (FILE, KNOWN, VALUES, by_first_place, line_of, raised, random_rule, state_after, state_behind)
from twolistings.archives import Archive
from twolistings.errors import BadEvent
from twolistings.joints import (alike, archive_of, first_joint, is_joint, joints_after, shows_alike, shows_parting)
from twolistings.readers import common
from twolistings.rules import Rule

FIRST = ((0, 0, 0), (0, 0, 0), 0)
ROWLESS = Rule([[[], [], [], [], [], []]])
# At each head it keeps what it has shown so far, and shows the new entry.
LAST_TWO = ROWLESS.changed(0, "head", [((), 0, "n", "s")])


def joint_of(first, second, said):
    """The joint state with these entries, whatever they are."""
    entries = by_first_place([first[1], first[2], second[1], second[2]])
    return (first[0], entries[0], entries[1]), (second[0], entries[2], entries[3]), said


def joints_by_words(one, other, joint):
    """The joint states after each event that can come, by the words of point 10."""
    first, second, said = joint
    entries = {first[1], first[2], second[1], second[2]} - {0}
    events = [("strike", 0), ("other", 0), ("absent", 0), ("head", 77)]
    if said > 0:
        events += [("struck", 0)] + [("named", entry) for entry in entries]
        if said > len(entries):
            events.append(("named", 88))
    found = set()
    for event, entry in events:
        more = min(5, said + (event == "head"))
        found.add(joint_of(state_after(one, first, event, entry), state_after(other, second, event, entry), more))
    return sorted(found)


def table_by_words(one, other):
    """All joint states that come; None if in one of them the shown entries differ."""
    table, todo = {FIRST}, [FIRST]
    while todo:
        for joint in joints_by_words(one, other, todo.pop()):
            if joint[0][1] != joint[1][1]:
                return None
            if joint not in table:
                table.add(joint)
                todo.append(joint)
    return sorted(table)


def all_lines(size):
    """Each line with so many tuples."""
    if size == 0:
        yield []
        return
    for line in all_lines(size - 1):
        heads = [entry for event, entry in line if event == "head"]
        events = [("head", size), ("strike", 0), ("other", 0), ("absent", 0)]
        if heads:
            events += [("struck", 0)] + [("named", entry) for entry in heads]
        for told in events:
            yield line + [told]


def random_line(rng, size):
    line = []
    for number in range(1, size + 1):
        heads = [entry for event, entry in line if event == "head"]
        choice = [("head", number), ("strike", 0), ("other", 0), ("absent", 0)]
        if heads:
            choice += [("struck", 0), ("named", rng.choice(heads)), ("named", heads[-1])]
        line.append(rng.choice(choice))
    return line


def parts_only_at_the_end(one, other, line):
    """Whether the last event of a line, and no earlier one, leaves two rules with different shown entries."""
    parted = [state_behind(one, line[:size])[1] != state_behind(other, line[:size])[1] for size in range(len(line) + 1)]
    return len(line) > 0 and parted[-1] and not any(parted[:-1])


def random_pairs(seed, count):
    """Pairs of rules with a product of at most 4 modes, half of them nearly the same rule."""
    rng = random.Random(seed)
    for number in range(count):
        sizes = [(1, 1), (1, 2), (2, 1), (2, 2), (1, 3), (3, 1), (1, 1)][number % 7]
        one = random_rule(rng, sizes[0])
        other = random_rule(rng, sizes[1])
        if number % 2 and sizes[0] == sizes[1]:
            mode, event = rng.randrange(sizes[0]), rng.choice(["strike", "other", "named", "struck", "absent"])
            other = one.changed(mode, event, other[(mode, event)])
        yield one, other


class First(unittest.TestCase):
    def test_the_joint_state_of_the_beginning(self):
        self.assertEqual(first_joint(), FIRST)
        self.assertTrue(is_joint(Rule.heads(), Rule.primed(), first_joint()))

    def test_where_the_interface_is_defined(self):
        for value in (first_joint, is_joint, joints_after, alike, shows_alike, shows_parting, archive_of):
            self.assertEqual(value.__module__, "twolistings.joints")

    def test_examples(self):
        told = [alike(Rule.heads(), Rule.heads())[0], alike(Rule.all_lists(), Rule.last_list())[0],
                joints_after(Rule.heads(), Rule.waiting(), first_joint())]
        self.assertEqual(told, ["yes", "no", [((0, 0, 0), (0, 0, 0), 0), ((0, 1, 0), (0, 0, 1), 1)]])
        with self.assertRaises(BadEvent) as held:
            archive_of([("head", 1), ("absent", 0), ("named", 2)])
        self.assertEqual(held.exception.number, 3)


class IsJoint(unittest.TestCase):
    def test_all_small_tuples(self):
        rules = [Rule.heads(), Rule.primed(), random_rule(random.Random(1), 3)]
        for one, other in [(rules[0], rules[0]), (rules[0], rules[1]), (rules[1], rules[0]), (rules[2], rules[0])]:
            right = 0
            for entries in itertools.product(range(-1, 6), repeat=4):
                formed = by_first_place(entries) == list(entries)
                for said in range(-1, 7):
                    joint = ((0, *entries[:2]), (0, *entries[2:]), said)
                    wanted = formed and max(entries) <= said <= 5
                    self.assertIs(is_joint(one, other, joint), wanted, joint)
                    right += wanted
            # 1, 15, 25, 10 and 1 ways to have 0 to 4 different entries; so many numbers of heads go with each.
            self.assertEqual(right, 1 * 6 + 15 * 5 + 25 * 4 + 10 * 3 + 1 * 2)

    def test_modes(self):
        rules = [Rule.heads(), Rule.primed(), random_rule(random.Random(1), 3)]
        for one, other in itertools.product(rules, repeat=2):
            for first, second in itertools.product(range(-1, 5), repeat=2):
                joint = ((first, 1, 0), (second, 1, 2), 3)
                self.assertIs(is_joint(one, other, joint), 0 <= first < len(one) and 0 <= second < len(other))

    def test_values(self):
        one, other = Rule.primed(), Rule.heads()
        for value in VALUES:
            self.assertIs(is_joint(one, other, value), False)
            is_state = value == (0, 0, 0)
            self.assertIs(is_joint(one, other, (value, (0, 1, 1), 1)), is_state)
            self.assertIs(is_joint(one, other, ((0, 1, 1), value, 1)), is_state)
            for joint in [((0, 1, 1), (0, 1, 1), 1, value), ((0, 1, 1, value), (0, 1, 1), 1),
                          ((0, 1, 1), (0, 1, 1, value), 1)]:
                self.assertIs(is_joint(one, other, joint), False, joint)
            number = value if type(value) is int else None
            for joint, right in [
                    (((value, 1, 1), (0, 1, 1), 1), (0, 1)), (((0, value, 1), (0, 1, 1), 1), (0, 1)),
                    (((0, 1, value), (0, 1, 1), 2), (0, 1, 2)), (((0, 1, 1), (value, 1, 1), 1), (0,)),
                    (((0, 1, 1), (0, value, 1), 2), (0, 1, 2)), (((0, 1, 1), (0, 1, value), 2), (0, 1, 2)),
                    (((0, 1, 1), (0, 1, 1), value), (1, 2))]:
                self.assertIs(is_joint(one, other, joint), number in right, joint)

    def test_true_and_false_are_no_numbers(self):
        one = Rule.primed()
        for joint in [((False, 0, 0), (0, 0, 0), 0), ((True, 0, 0), (0, 0, 0), 0), ((0, False, 0), (0, 0, 0), 0),
                      ((0, 0, False), (0, 0, 0), 0), ((0, True, 0), (0, 0, 0), 1), ((0, 0, 0), (0, 0, True), 1),
                      ((0, 0, 0), (0, 0, 0), False), ((0, 1, 1), (0, 1, 1), True)]:
            self.assertIs(is_joint(one, one, joint), False, joint)

    def test_lists_for_tuples(self):
        for joint in [[(0, 0, 0), (0, 0, 0), 0], ([0, 0, 0], (0, 0, 0), 0), ((0, 0, 0), [0, 0, 0], 0),
                      ((0, 0), (0, 0, 0), 0), ((0, 0, 0), (0, 0), 0), ((0, 0, 0), (0, 0, 0))]:
            self.assertIs(is_joint(Rule.heads(), Rule.heads(), joint), False, joint)

    def test_different_shown_entries_are_a_joint_state_too(self):
        self.assertIs(is_joint(Rule.heads(), Rule.heads(), ((0, 1, 0), (0, 2, 3), 4)), True)


class After(unittest.TestCase):
    def check(self, one, other, joint):
        told = joints_after(one, other, joint)
        self.assertIs(type(told), list)
        self.assertEqual(told, joints_by_words(one, other, joint))
        for after in told:
            self.assertIs(is_joint(one, other, after), True)

    def joints(self, one, other):
        """All joint states of two rules with equal or different shown entries, five of them for some."""
        for entries in itertools.product(range(5), repeat=4):
            if by_first_place(entries) == list(entries):
                for said in range(max(entries), 6):
                    for modes in itertools.product(range(len(one)), range(len(other))):
                        yield (modes[0], *entries[:2]), (modes[1], *entries[2:]), said

    def test_each_joint_state_of_known_rules(self):
        for one, other in [("heads", "waiting"), ("twice", "checking"), ("last_list", "primed"), ("primed", "primed")]:
            for joint in self.joints(KNOWN[one], KNOWN[other]):
                self.check(KNOWN[one], KNOWN[other], joint)

    def test_rules_of_more_modes(self):
        for one, other in random_pairs(2, 14):
            for joint in list(self.joints(one, other))[::3]:
                self.check(one, other, joint)

    def test_what_an_unknown_entry_leads_to(self):
        rule = Rule.all_lists()
        told = joints_after(rule, rule, ((0, 1, 0), (0, 1, 0), 1))
        self.assertEqual(told, [((0, 0, 0), (0, 0, 0), 1), ((0, 1, 0), (0, 1, 0), 1), ((0, 1, 0), (0, 1, 0), 2)])
        # With one entry, and one head of it, no list may name another one; with no entry it may.
        keeps = ROWLESS.changed(0, "named", [((), 0, "s", "x")])
        self.assertIn(((0, 0, 1), (0, 0, 1), 1), joints_after(keeps, keeps, ((0, 0, 0), (0, 0, 0), 1)))
        self.assertNotIn(((0, 1, 2), (0, 1, 2), 1), joints_after(keeps, keeps, ((0, 1, 0), (0, 1, 0), 1)))
        self.assertIn(((0, 1, 2), (0, 1, 2), 2), joints_after(keeps, keeps, ((0, 1, 0), (0, 1, 0), 2)))

    def test_five_heads(self):
        shows = ROWLESS.changed(0, "named", [((), 0, "x", "k")])
        told = joints_after(shows, ROWLESS, ((0, 1, 2), (0, 3, 4), 5))
        self.assertEqual(told, [
            ((0, 1, 1), (0, 2, 3), 5), ((0, 1, 2), (0, 1, 3), 5), ((0, 1, 2), (0, 3, 1), 5), ((0, 1, 2), (0, 3, 4), 5)])
        self.check(shows, ROWLESS, ((0, 1, 2), (0, 3, 4), 5))
        # All four are known, and still a list may name a fifth one; with four heads it may not.
        parted = ROWLESS.changed(0, "named", [((("x", "==", "s"),), 0, "s", "k"), ((("x", "==", "k"),), 0, "s", "k"),
                                              ((), 0, "x", "x")])
        five, four = ((0, 1, 2), (0, 3, 4), 5), ((0, 1, 2), (0, 3, 4), 4)
        self.assertIn(((0, 1, 1), (0, 1, 1), 5), joints_after(parted, parted, five))
        self.assertNotIn(((0, 1, 1), (0, 1, 1), 4), joints_after(parted, parted, four))
        self.assertEqual({joint[2] for joint in joints_after(parted, parted, five)}, {5})
        self.assertEqual({joint[2] for joint in joints_after(parted, parted, four)}, {4, 5})

    def test_before_the_first_head_no_list_speaks_of_the_name(self):
        rule = ROWLESS.changed(0, "struck", [((), 0, "o", "o")])
        other = Rule([[[], [], [], [((), 1, "s", "k")], [((), 1, "s", "k")], []], [[]] * 6])
        self.assertEqual(joints_after(rule, other, FIRST), [FIRST, ((0, 0, 0), (0, 0, 0), 1)])
        self.assertIn(((0, 0, 0), (1, 0, 0), 1), joints_after(rule, other, ((0, 0, 0), (0, 0, 0), 1)))

    def test_each_list_is_new(self):
        joints_after(Rule.heads(), Rule.heads(), FIRST).clear()
        self.assertEqual(len(joints_after(Rule.heads(), Rule.heads(), FIRST)), 2)

    def test_by_name(self):
        told = joints_after(joint=first_joint(), other=Rule.waiting(), one=Rule.heads())
        self.assertEqual(told, [FIRST, ((0, 1, 0), (0, 0, 1), 1)])
        self.assertIs(is_joint(value=FIRST, other=Rule.heads(), one=Rule.heads()), True)


class Alike(unittest.TestCase):
    def check(self, one, other):
        """What the document says of the answer for two rules; the word of it."""
        answer = alike(one, other)
        self.assertIs(type(answer), tuple)
        word, paper = answer
        self.assertIs(type(paper), list)
        table = table_by_words(one, other)
        self.assertEqual(word, "no" if table is None else "yes")
        if word == "yes":
            self.assertEqual(sorted(paper), table)
        else:
            self.assertTrue(parts_only_at_the_end(one, other, paper))
            archive = archive_of(paper)
            self.assertEqual(archive.line("a"), paper)
            self.assertEqual(common([one, other], archive), ("no", "a"))
            self.assertEqual(common([one, other], archive.cut(len(paper) - 1))[0], "yes")
        self.assertIs(shows_alike(one, other, paper), word == "yes")
        self.assertIs(shows_parting(one, other, paper), word == "no")
        self.assertEqual(alike(one, other), answer)
        return word

    def test_the_known_rules(self):
        for one, other in itertools.product(KNOWN, repeat=2):
            with self.subTest(one=one, other=other):
                self.assertEqual(self.check(KNOWN[one], KNOWN[other]), "yes" if one == other else "no")

    def test_short_lines_part_them_or_none_does(self):
        lines = [line for size in range(1, 5) for line in all_lines(size)]
        for one, other in random_pairs(3, 60):
            parted = any(parts_only_at_the_end(one, other, line) for line in lines)
            if parted:
                self.assertEqual(alike(one, other)[0], "no")
            if alike(one, other)[0] == "yes":
                self.assertFalse(parted)

    def test_other_rules(self):
        words = [self.check(one, other) for one, other in random_pairs(4, 210)]
        self.assertGreater(min(words.count("yes"), words.count("no")), 20)

    def test_rules_that_part_by_one_kind_of_event_alone(self):
        rule = ROWLESS.changed(0, "head", [((), 0, "n", "n")])
        for event in ("strike", "other", "named", "struck", "absent"):
            other = rule.changed(0, event, [((), 0, "o", "k")])
            self.assertEqual(self.check(rule, other), "no")
            line = alike(rule, other)[1]
            self.assertEqual([told[0] for told in line], ["head", event])
            self.assertEqual(self.check(other, rule), "no")
        self.assertEqual(self.check(rule, ROWLESS), "no")

    def test_rules_that_part_only_at_a_third_head(self):
        counts = Rule([
            [[((), 1, "n", "k")], [], [], [], [], []], [[((), 2, "n", "k")], [], [], [], [], []],
            [[((), 2, "s", "k")], [], [], [], [], []]])
        shows = ROWLESS.changed(0, "head", [((), 0, "n", "k")])
        for one, other in ((counts, shows), (shows, counts)):
            self.assertEqual(self.check(one, other), "no")
            self.assertEqual([told[0] for told in alike(one, other)[1]].count("head"), 3)

    def test_rules_that_part_only_by_a_third_entry(self):
        known = [((("x", "==", "s"),), 0, "s", "k"), ((("x", "==", "k"),), 0, "s", "k")]
        deaf = LAST_TWO.changed(0, "named", known)
        hears = LAST_TWO.changed(0, "named", known + [((("k", "!=", "o"),), 0, "o", "k")])
        self.assertEqual(self.check(deaf, hears), "no")
        line = alike(deaf, hears)[1]
        self.assertEqual([told[0] for told in line].count("head"), 3)
        self.assertEqual(line[-1][0], "named")

    def test_unlike_rules_that_show_the_same(self):
        heads = Rule.heads()
        silent = heads.changed(0, "head", [((), 0, "n", "s")])
        self.assertEqual(self.check(heads, silent), "yes")
        two = Rule([heads.modes[0], heads.modes[0]]).changed(0, "absent", [((), 1, "s", "k")])
        self.assertEqual(self.check(heads, two), "yes")
        self.assertEqual(self.check(two, two), "yes")
        # No list says of a name that has no head that it is struck.
        struck = ROWLESS.changed(0, "struck", [((("s", "==", "o"),), 0, "k", "s")])
        self.assertEqual(self.check(struck, ROWLESS), "yes")

    def test_each_list_is_new(self):
        for one, other in ((Rule.heads(), Rule.heads()), (Rule.heads(), Rule.waiting())):
            before = list(alike(one, other)[1])
            alike(one, other)[1].clear()
            self.assertEqual(alike(one, other)[1], before)


class ShowsAlike(unittest.TestCase):
    def pairs(self):
        heads = Rule.heads()
        return [(heads, heads), (heads, heads.changed(0, "head", [((), 0, "n", "s")])), (Rule.twice(), Rule.twice()),
                (Rule.primed(), Rule.primed()), (LAST_TWO, LAST_TWO)]

    def test_any_order_is_right(self):
        rng = random.Random(5)
        for one, other in self.pairs():
            table = alike(one, other)[1]
            for _ in range(5):
                self.assertIs(shows_alike(one, other, table), True)
                rng.shuffle(table)
            self.assertIs(shows_alike(one, other, table[::-1]), True)

    def test_a_row_left_out(self):
        for one, other in self.pairs():
            table = alike(one, other)[1]
            for at in range(len(table)):
                # All come from the beginning, so none may be missing.
                self.assertIs(shows_alike(one, other, table[:at] + table[at + 1:]), False)

    def test_a_row_twice(self):
        for one, other in self.pairs():
            table = alike(one, other)[1]
            for at in range(0, len(table), 3):
                self.assertIs(shows_alike(one, other, table + [table[at]]), False)
                self.assertIs(shows_alike(one, other, table[:at] + [table[at]] + table[at:]), False)

    def test_rows_put_in(self):
        one, other = Rule.heads(), Rule.heads()
        table = alike(one, other)[1]
        # What comes from this one has rows already; from the next one others come.
        self.assertIs(shows_alike(one, other, table + [((0, 1, 0), (0, 1, 0), 0)]), False)
        more = [((0, 0, 1), (0, 0, 1), said) for said in range(1, 6)]
        more += [((0, 1, 2), (0, 1, 2), said) for said in range(2, 6)]
        self.assertEqual([set(table) & set(more)], [set()])
        self.assertIs(shows_alike(one, other, table + more), True)
        self.assertIs(shows_alike(one, other, more + table), True)
        for at in range(1, len(more)):
            kept = more[:at] + more[at + 1:]
            wanted = all(set(joints_by_words(one, other, joint)) <= set(table + kept) for joint in kept)
            self.assertIs(shows_alike(one, other, table + kept), wanted)
        self.assertIs(shows_alike(one, other, table + [((0, 1, 0), (0, 2, 0), 2)]), False)
        self.assertIs(shows_alike(one, other, more), False)

    def test_a_closed_row_that_parts_is_no_row(self):
        # From here nothing else comes, but the shown entries differ.
        table = alike(ROWLESS, ROWLESS)[1]
        parted = [((0, 1, 0), (0, 0, 0), said) for said in range(1, 6)]
        self.assertIs(shows_alike(ROWLESS, ROWLESS, table), True)
        self.assertIs(shows_alike(ROWLESS, ROWLESS, table + parted), False)
        same = [((0, 1, 0), (0, 1, 0), said) for said in range(1, 6)]
        self.assertIs(shows_alike(ROWLESS, ROWLESS, table + same), True)

    def test_rows_turned_about(self):
        one, other = Rule.heads(), Rule.heads().changed(0, "head", [((), 0, "n", "s")])
        table = alike(one, other)[1]
        turned = [joint_of(second, first, said) for first, second, said in table]
        self.assertIs(shows_alike(other, one, turned), True)
        self.assertIs(shows_alike(one, other, turned), False)

    def test_rows_of_other_forms(self):
        for one, other in self.pairs():
            table = alike(one, other)[1]
            for value in VALUES:
                self.assertIs(shows_alike(one, other, value), False)
                self.assertIs(shows_alike(one, other, table + [value]), False)
                self.assertIs(shows_alike(one, other, [value] + table), False)
            self.assertIs(shows_alike(one, other, tuple(table)), False)
            self.assertIs(shows_alike(one, other, [list(joint) for joint in table]), False)
            self.assertIs(shows_alike(one, other, [(list(joint[0]), *joint[1:]) for joint in table]), False)
            self.assertIs(shows_alike(one, other, [(*joint[:2], bool(joint[2])) for joint in table[:1]]), False)
            self.assertIs(shows_alike(one, other, ("yes", table)), False)
            at = table.index(FIRST)
            for wrong in [((0, 0, 0), (0, 0, 0), False), ((0, False, 0), (0, 0, 0), 0), ((False, 0, 0), (0, 0, 0), 0)]:
                self.assertIs(shows_alike(one, other, table[:at] + [wrong] + table[at + 1:]), False)

    def test_of_rules_that_part(self):
        one, other = Rule.heads(), Rule.waiting()
        for table in ([FIRST], alike(one, one)[1], alike(other, other)[1], []):
            self.assertIs(shows_alike(one, other, table), False)

    def test_the_table_is_left_as_it_is(self):
        table = alike(Rule.heads(), Rule.heads())[1]
        before = list(table)
        shows_alike(Rule.heads(), Rule.heads(), table)
        self.assertEqual(table, before)


class ShowsParting(unittest.TestCase):
    def test_all_short_lines(self):
        pairs = [("heads", "waiting"), ("all_lists", "last_list"), ("twice", "all_lists"), ("heads", "heads")]
        for one, other in pairs:
            for size in range(5):
                for line in all_lines(size):
                    wanted = parts_only_at_the_end(KNOWN[one], KNOWN[other], line)
                    self.assertIs(shows_parting(KNOWN[one], KNOWN[other], line), wanted)

    def test_lines_cut_or_gone_on(self):
        for one, other in itertools.combinations(KNOWN.values(), 2):
            line = alike(one, other)[1]
            for size in range(len(line)):
                self.assertIs(shows_parting(one, other, line[:size]), False)
            for told in [("absent", 0), ("other", 0), ("strike", 0), ("head", len(line) + 1)]:
                self.assertIs(shows_parting(one, other, line + [told]), False)

    def test_longer_lines(self):
        # Where nothing parts them, the line may be gone on with ahead of what does.
        one, other = Rule.all_lists(), Rule.last_list()
        line = [("head", 1), ("absent", 0), ("strike", 0), ("other", 0), ("named", 1), ("struck", 0), ("head", 7)]
        self.assertIs(shows_parting(one, other, line), False)
        self.assertIs(shows_parting(one, other, line + [("named", 7), ("other", 0), ("absent", 0)]), True)
        self.assertIs(shows_parting(one, other, line + [("named", 8), ("other", 0), ("absent", 0)]), False)
        self.assertIs(shows_parting(one, other, line + [("named", 1), ("other", 0), ("struck", 0)]), False)
        rng = random.Random(6)
        for one, other in random_pairs(7, 100):
            for _ in range(10):
                line = random_line(rng, rng.randrange(1, 15))
                self.assertIs(shows_parting(one, other, line), parts_only_at_the_end(one, other, line))

    def test_many_heads(self):
        one, other = Rule.heads(), Rule.heads().changed(0, "absent", [((), 0, "o", "k")])
        line = [("head", number) for number in range(1, 5001)] + [("named", 17)] * 50
        self.assertIs(shows_parting(one, other, line), False)
        self.assertIs(shows_parting(one, other, line + [("absent", 0)]), True)

    def test_values(self):
        one, other = Rule.all_lists(), Rule.last_list()
        line = [("head", 1), ("named", 1), ("absent", 0)]
        self.assertIs(shows_parting(one, other, line), True)
        for value in VALUES:
            self.assertIs(shows_parting(one, other, value), False)
            for at in range(4):
                self.assertIs(shows_parting(one, other, line[:at] + [value] + line[at:]), False)
        for wrong in [tuple(line), ("no", line), [["head", 1], *line[1:]], [("head", True), *line[1:]],
                      [*line[:2], ("absent", False)], [("head", 1), ("named", True), ("absent", 0)],
                      [("head", 2), ("named", 2), ("absent", 0)], [("head", 1), ("named", 0), ("absent", 0)],
                      [("head", 1), ("named", 1), ("absent", 1)], [("head", 1), ("named", 1), ("absent",)],
                      [("head", 1), ("named", 1), ("Absent", 0)], [("head", 1), ("named", 1), ("absent", 0, 0)]]:
            self.assertIs(shows_parting(one, other, wrong), False, wrong)

    def test_a_line_is_one_of_an_archive(self):
        # No list may say of a name without a head that it is struck, whatever rules do then.
        one = Rule([[[], [], [], [], [((), 1, "s", "k")], []], [[((), 1, "n", "k")], [], [], [], [], []]])
        self.assertIs(shows_parting(one, ROWLESS, [("struck", 0), ("head", 2)]), False)
        self.assertIs(shows_parting(one, ROWLESS, [("head", 1), ("struck", 0), ("head", 3)]), True)

    def test_the_line_is_left_as_it_is(self):
        line = [("head", 1), ("named", 1), ("absent", 0)]
        shows_parting(Rule.all_lists(), Rule.last_list(), line)
        self.assertEqual(line, [("head", 1), ("named", 1), ("absent", 0)])


class Lines(unittest.TestCase):
    def test_the_archive_of_a_line(self):
        line = [("other", 0), ("strike", 0), ("absent", 0), ("head", 4), ("named", 4), ("struck", 0), ("head", 7),
                ("other", 0), ("named", 7), ("named", 4), ("absent", 0)]
        archive = archive_of(line)
        self.assertIs(type(archive), Archive)
        self.assertEqual(archive.records, [
            ("head", "b", FILE), ("strike", "a"), ("list", ()), ("head", "a", FILE), ("list", (("a", 1),)),
            ("list", (("a", 0),)), ("head", "a", FILE), ("head", "b", FILE), ("list", (("a", 2),)),
            ("list", (("a", 6),)), ("list", ())])
        self.assertEqual(archive.line("a"), line)

    def test_all_short_lines(self):
        for size in range(5):
            for line in all_lines(size):
                archive = archive_of(line)
                self.assertEqual(archive.line("a"), line)
                self.assertEqual(line_of(archive.records, "a"), line)

    def test_longer_lines(self):
        rng = random.Random(8)
        for _ in range(30):
            line = random_line(rng, rng.randrange(60))
            self.assertEqual(archive_of(list(line)).line("a"), line)

    def test_tuples_that_do_not_stand_at_their_place(self):
        line = [("head", 1), ("absent", 0), ("head", 3), ("other", 0)]
        right = [("head", 5), ("strike", 0), ("other", 0), ("absent", 0), ("struck", 0), ("named", 1), ("named", 3)]
        events = ["head", "strike", "other", "named", "struck", "absent", "heads", "list", None, 0, ("head",), ["head"]]
        for event in events:
            for entry in [*range(-2, 8), True, False, None, "0", "", (), [], [0], 10 ** 39]:
                told = (event, entry)
                is_right = type(entry) is int and told in right
                wanted = None if is_right else ("BadEvent", {"number": 5})
                self.assertEqual(raised(archive_of, line + [told]), wanted, told)

    def test_lists_speak_of_the_name_behind_its_first_head_alone(self):
        for told in (("struck", 0), ("named", 1), ("named", 0)):
            self.assertEqual(raised(archive_of, [told]), ("BadEvent", {"number": 1}))
            self.assertEqual(raised(archive_of, [("strike", 0), told]), ("BadEvent", {"number": 2}))
            self.assertEqual(raised(archive_of, [("other", 0), told, ("head", 3)]), ("BadEvent", {"number": 2}))

    def test_values(self):
        line = [("head", 1), ("named", 1), ("absent", 0)]
        for value in VALUES:
            if type(value) is not list:
                self.assertEqual(raised(archive_of, value), ("BadEvent", {"number": 0}))
            elif value:
                self.assertEqual(raised(archive_of, value), ("BadEvent", {"number": 1}))
            if value != ("head", 1):
                for at in range(4):
                    wrong = line[:at] + [value] + line[at:]
                    self.assertEqual(raised(archive_of, wrong), ("BadEvent", {"number": at + 1}))
        self.assertEqual(raised(archive_of, tuple(line)), ("BadEvent", {"number": 0}))
        for told in (["absent", 0], ("absent",), ("absent", 0, 0), ("absent", False), "absent"):
            self.assertEqual(raised(archive_of, line + [told, None]), ("BadEvent", {"number": 4}))

    def test_by_name(self):
        self.assertEqual(archive_of(line=[]), Archive([]))

    def test_the_line_is_left_as_it_is_and_copied(self):
        line = [("head", 1), ("absent", 0)]
        archive = archive_of(line)
        self.assertEqual(line, [("head", 1), ("absent", 0)])
        line.clear()
        self.assertEqual(len(archive), 2)

    def test_long_lines(self):
        line = [("head", 1)] + [("named", 1), ("other", 0)] * 10000
        self.assertEqual(archive_of(line).line("a"), line)


if __name__ == "__main__":
    unittest.main()
