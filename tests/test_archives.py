"""Points 3 to 6, 27 and 28 for twolistings.archives: names, things, right and wrong records, archives and lines."""

import random
import unittest

from samples import FILE, VALUES, line_of, random_records, raised
from twolistings.archives import Archive, is_name, is_thing
from twolistings.errors import BadRecord, NoRecord

HEAD = ("head", "a", FILE)
LETTERS = "".join(chr(code) for code in range(ord(" "), ord("~") + 1))
NO_LETTERS = ["\n", "\t", "\x00", "\x1f", "\x7f", "\x80", "\xe9", "\u20ac", "\ud800"]


class Names(unittest.TestCase):
    def test_names(self):
        for name in ["a", "a/b", " ", "~", "a b", "...", ".a", "a.", "..a", ". ", "a/.../b", "^;:,", "-", "0", "A/a/A"]:
            self.assertIs(is_name(name), True, name)

    def test_every_letter_but_the_slash(self):
        for letter in LETTERS:
            self.assertIs(is_name("a" + letter + "b"), True, letter)
            self.assertIs(is_name(letter), letter not in "/.", letter)

    def test_signs_outside(self):
        for letter in NO_LETTERS:
            for name in (letter, "a" + letter, letter + "a", "a/" + letter, "a" + letter + "/b"):
                self.assertIs(is_name(name), False, repr(name))

    def test_parts(self):
        for count in range(1, 12):
            self.assertIs(is_name("/".join(["a"] * count)), count <= 8, count)
            self.assertIs(is_name("/".join(["bc"] * count)), count <= 8, count)

    def test_wrong_parts(self):
        for part in ("", ".", ".."):
            for name in (part, "a/" + part, part + "/a", "a/" + part + "/b", part + "/" + part):
                self.assertIs(is_name(name), False, name)

    def test_length(self):
        for size in (59, 60, 61, 62, 200):
            self.assertIs(is_name("a" * size), size <= 60, size)
            self.assertIs(is_name("a/" + "b" * (size - 2)), size <= 60, size)

    def test_values(self):
        for value in VALUES:
            self.assertIs(is_name(value), isinstance(value, str) and value != "", value)
        for value in (["a"], ("a",), ["a", "/", "b"], b"a"):
            self.assertIs(is_name(value), False, value)

    def test_by_name(self):
        self.assertEqual([is_name(value="a"), is_thing(value=("folder",))], [True, True])


class Things(unittest.TestCase):
    def test_things(self):
        for thing in [("folder",), FILE, ("file", "a/b\\^;:,"), ("link", "a/b"), ("file", "."), ("file", LETTERS)]:
            self.assertIs(is_thing(thing), True, thing)

    def test_length_of_texts(self):
        for size in (199, 200, 201, 1000):
            self.assertIs(is_thing(("file", "a" * size)), size <= 200, size)

    def test_length_of_targets(self):
        for size in (60, 61):
            self.assertIs(is_thing(("link", "a" * size)), size <= 60, size)

    def test_signs_outside(self):
        for letter in NO_LETTERS:
            self.assertIs(is_thing(("file", letter)), False, repr(letter))
            self.assertIs(is_thing(("file", "a" + letter)), False, repr(letter))
            self.assertIs(is_thing(("link", letter)), False, repr(letter))

    def test_targets_that_are_no_names(self):
        for target in ["", ".", "..", "a/", "/a", "a//b", "a/../b", "/".join("a" * 9)]:
            self.assertIs(is_thing(("link", target)), False, target)

    def test_values(self):
        for value in VALUES:
            self.assertIs(is_thing(value), False, value)
            self.assertIs(is_thing((value,)), False, value)
            self.assertIs(is_thing(("folder", value)), False, value)
            self.assertIs(is_thing(("file", value)), isinstance(value, str), value)
            self.assertIs(is_thing(("link", value)), isinstance(value, str) and value != "", value)
            self.assertIs(is_thing((value, "a")), False, value)
            self.assertIs(is_thing(("file", "a", value)), False, value)

    def test_lists_for_tuples_and_other_words(self):
        for value in [["folder"], ["file", ""], ["link", "a"], "folder", ("file",), ("link",), ("folder", ""),
                      ("File", ""), ("links", "a"), ("folders",), ("f", ""), ("file", "", ""), (("folder",),)]:
            self.assertIs(is_thing(value), False, value)


def wrong_records():
    """Values that are no records that can stand as the fourth one behind heads of a and b and a strike of c."""
    yield from VALUES
    for kind in ("Head", "heads", "", "folder", None, 0, True, ("head",), ["head"]):
        yield (kind, "b", FILE)
        yield (kind, "b")
        yield (kind, ())
    for value in VALUES:
        if not isinstance(value, str) or value == "":
            yield ("head", value, FILE)
            yield ("strike", value)
            yield ("list", ((value, 0),))
        yield ("head", "b", value)
        yield ("head", "b", FILE, value)
        yield ("strike", "b", value)
        yield ("strike", "b", FILE, value)
        if value != ():
            yield ("list", value)
            yield ("list", (value,))
        yield ("list", (), value)
        yield ("list", (("a", 0, value),))
        if value != 0 or value is False:
            yield ("list", (("a", value),))
    yield from [
        ["head", "b", FILE], ["strike", "b"], ["list", ()], ("list", []), ("list", [("a", 0)]), ("list", (["a", 0],)),
        ("list", ("a", 0)), ("list", (("a",),)), ("list", ((0, "a"),)), ("head", "b"), ("strike",), ("list",),
        ("head",), ("head", FILE, "b"), ("head", "b/", FILE), ("strike", "b/"), ("strike", "/".join("b" * 9)),
        ("list", (("c", 0),)), ("list", (("d", 0),)), ("list", (("a", 0), ("d", 0))), ("list", (("c", 1),)),
        ("list", (("a", 1),)), ("list", (("a", 2),)), ("list", (("b", 3),)), ("list", (("a", 4),)),
        ("list", (("a", 5),)), ("list", (("b", 6),)), ("list", (("a", -1),)), ("list", (("b", -2),)),
        ("list", (("a", 10 ** 39),)),
        ("list", (("a", "3"),)), ("list", (("b", 0), ("a", 0))), ("list", (("b", 2), ("a", 3))),
        ("list", (("a", 0), ("a", 0))), ("list", (("a", 3), ("a", 0))), ("list", (("a", 0), ("b", 0), ("b", 2))),
        ("list", (("a", 0), ("b", 0), ("a", 0))), ("list", (("a", False),)),
    ]


RIGHT = [HEAD, ("head", "b", ("folder",)), ("strike", "c")]


class Records(unittest.TestCase):
    def test_records_that_can_stand(self):
        for record in [("list", ()), ("list", (("a", 0),)), ("list", (("a", 3),)), ("list", (("b", 2),)),
                       ("list", (("a", 3), ("b", 2))), ("list", (("a", 0), ("b", 0))), ("strike", "a"),
                       ("strike", "never/said"), ("head", "a", ("folder",)), ("head", "c", ("link", "none"))]:
            archive = Archive(RIGHT + [record])
            self.assertEqual(archive.records, RIGHT + [record])
            self.assertEqual(Archive(RIGHT).added(record), archive)

    def test_values_that_are_no_records(self):
        archive = Archive(RIGHT)
        for record in wrong_records():
            with self.subTest(record):
                wanted = ("BadRecord", {"number": 4})
                self.assertEqual(raised(Archive, RIGHT + [record]), wanted)
                self.assertEqual(raised(archive.added, record), wanted)
                # The first one counts, whatever stands behind it.
                self.assertEqual(raised(Archive, RIGHT + [record, HEAD, record, None]), wanted)
        self.assertEqual(archive, Archive(RIGHT))

    def test_true_is_no_distance(self):
        self.assertEqual(raised(Archive, [HEAD, ("list", (("a", True),))]), ("BadRecord", {"number": 2}))
        self.assertEqual(Archive([HEAD, ("list", (("a", 1),))]).line("a"), [("head", 1), ("named", 1)])

    def test_a_list_ahead_of_the_head(self):
        self.assertEqual(raised(Archive, [("list", (("a", 0),)), HEAD]), ("BadRecord", {"number": 1}))
        self.assertEqual(raised(Archive, [("list", ()), ("list", (("a", 1),)), HEAD]), ("BadRecord", {"number": 2}))
        self.assertEqual(raised(Archive, [("strike", "a"), ("list", (("a", 0),))]), ("BadRecord", {"number": 2}))

    def test_distances(self):
        records = [HEAD, ("strike", "a"), ("head", "b", FILE), HEAD, ("list", ()), ("list", ())]
        good = {("a", 0), ("a", 6), ("a", 3), ("b", 0), ("b", 4)}
        for name in "abc":
            for back in range(-3, 12):
                record = ("list", ((name, back),))
                wanted = None if (name, back) in good else ("BadRecord", {"number": 7})
                self.assertEqual(raised(Archive, records + [record]), wanted)
                self.assertEqual(raised(Archive(records).added, record), wanted)

    def test_no_list(self):
        for value in [*VALUES, tuple(RIGHT), HEAD, "head"]:
            if not isinstance(value, list):
                self.assertEqual(raised(Archive, value), ("BadRecord", {"number": 0}), value)
            elif value:
                self.assertEqual(raised(Archive, value), ("BadRecord", {"number": 1}), value)

    def test_the_first_of_many(self):
        records = random_records(random.Random(5), 60, ["a", "b", "c"])
        for at in range(60):
            wrong = records[:at] + [None] + records[at:]
            self.assertEqual(raised(Archive, wrong), ("BadRecord", {"number": at + 1}))

    def test_example_of_a_bad_record(self):
        with self.assertRaises(BadRecord) as held:
            Archive([("head", "a", ("folder",)), ("list", (("b", 0),))])
        self.assertEqual(held.exception.number, 2)


class Archives(unittest.TestCase):
    def test_example(self):
        archive = Archive([("head", "a", ("folder",)), ("strike", "b"), ("list", (("a", 2),))])
        told = [archive.names, archive.line("a"), archive.line("b"), (archive + archive)[6], archive.cut(1).records]
        self.assertEqual(told, [
            ["a"], [("head", 1), ("other", 0), ("named", 1)], [("other", 0), ("strike", 0), ("absent", 0)],
            ("list", (("a", 2),)), [("head", "a", ("folder",))]])

    def test_what_the_interface_lists_is_defined_in_the_class(self):
        for name in ["__init__", "__len__", "__getitem__", "__eq__", "__add__", "added", "cut", "heads_of", "line",
                     "records", "names"]:
            self.assertIn(name, vars(Archive))
        for name in ("records", "names"):
            self.assertIsInstance(vars(Archive)[name], property)
        for value in (is_name, is_thing, Archive):
            self.assertEqual(value.__module__, "twolistings.archives")

    def test_no_records(self):
        archive = Archive([])
        self.assertEqual([archive.records, archive.names, len(archive), archive.line("a")], [[], [], 0, []])
        self.assertEqual([archive.cut(0), archive + archive, archive.heads_of("a")], [archive, archive, []])
        self.assertEqual(raised(archive.added, ("list", (("a", 0),))), ("BadRecord", {"number": 1}))
        self.assertEqual(archive.added(HEAD).records, [HEAD])

    def test_names_are_those_with_a_head(self):
        archive = Archive([("head", "b", FILE), ("strike", "a"), ("head", "A/b", FILE), ("strike", "b"),
                           ("head", "b", FILE), ("head", "~", FILE), ("head", " ", FILE)])
        self.assertEqual(archive.names, [" ", "A/b", "b", "~"])
        self.assertEqual(archive.cut(2).names, ["b"])

    def test_by_number(self):
        records = random_records(random.Random(1), 30, ["a", "b"])
        archive = Archive(records)
        self.assertEqual([archive[number] for number in range(1, 31)], records)
        self.assertEqual(len(archive), 30)

    def test_no_record(self):
        archive = Archive(RIGHT)
        for value in [*VALUES, 4, 5, -2, -3, True, "1", 1 << 64, (1,), [1], HEAD]:
            if type(value) is not int or not 1 <= value <= 3:
                with self.subTest(value):
                    with self.assertRaises(NoRecord) as held:
                        archive[value]
                    self.assertIs(held.exception.number, value)
            if type(value) is not int or not 0 <= value <= 3:
                with self.subTest(value, cut=True):
                    with self.assertRaises(NoRecord) as held:
                        archive.cut(value)
                    self.assertIs(held.exception.number, value)
        self.assertEqual(archive.records, RIGHT)

    def test_no_place_in_an_archive_without_records(self):
        for value in (0, 1, -1):
            with self.assertRaises(NoRecord):
                Archive([])[value]

    def test_is_not_iterated_over(self):
        with self.assertRaises(TypeError):
            list(Archive(RIGHT))

    def test_equal(self):
        records = random_records(random.Random(2), 20, ["a", "b"])
        self.assertIs(Archive(records) == Archive(list(records)), True)
        self.assertIs(Archive(records) != Archive(list(records)), False)
        for other in (records[:-1], records[:5] + records[6:] if records[5][0] == "strike" else [], [HEAD], []):
            self.assertIs(Archive(records) == Archive(other), False)
            self.assertIs(Archive(other) != Archive(records), True)

    def test_equal_however_they_are_made(self):
        archive = Archive(RIGHT)
        for other in (Archive(RIGHT + [HEAD]).cut(3), Archive(RIGHT[:1]) + Archive(RIGHT[1:]),
                      Archive(RIGHT[:2]).added(RIGHT[2])):
            self.assertTrue(other == archive)
            self.assertEqual([other.names, other.heads_of("b"), len(other)], [["a", "b"], [2], 3])

    def test_any_other_object_is_unequal(self):
        archive = Archive(RIGHT)
        for value in [*VALUES, RIGHT, tuple(RIGHT), archive.records, object(), Archive]:
            self.assertIs(archive == value, False)
            self.assertIs(archive != value, True)
            self.assertIs(value == archive, False)

    def test_by_name(self):
        archive = Archive(records=RIGHT)
        self.assertEqual(archive.cut(number=1).added(record=RIGHT[1]).cut(number=2), archive.cut(2))
        self.assertEqual([archive.heads_of(name="b"), archive.line(name="c")], [[2], line_of(RIGHT, "c")])

    def test_sums(self):
        rng = random.Random(3)
        for _ in range(40):
            first = random_records(rng, rng.randrange(12), ["a", "b", "c"])
            second = random_records(rng, rng.randrange(12), ["b", "c", "d"])
            one, other = Archive(first), Archive(second)
            both = one + other
            self.assertEqual(both.records, first + second)
            self.assertEqual(both, Archive(first + second))
            self.assertEqual(both.names, sorted(set(one.names + other.names)))
            for name in "abcde":
                shifted = [(event, entry + len(first) if entry else 0) for event, entry in other.line(name)]
                self.assertEqual(both.line(name), one.line(name) + shifted)
                heads = one.heads_of(name) + [number + len(first) for number in other.heads_of(name)]
                self.assertEqual(both.heads_of(name), heads)
            self.assertEqual([one.records, other.records], [first, second])
            # What stands behind the sum may speak of the names of both.
            for name in both.names:
                record = ("list", ((name, len(both) + 1 - both.heads_of(name)[0]),))
                self.assertEqual(both.added(record), Archive(first + second + [record]))

    def test_a_sum_with_no_archive(self):
        for value in (None, [], 0, RIGHT):
            with self.assertRaises(TypeError):
                Archive(RIGHT) + value

    def test_added_and_cut(self):
        records = random_records(random.Random(4), 40, ["a", "b", "c"])
        archive, whole = Archive([]), Archive(records)
        for number, record in enumerate(records, start=1):
            longer = archive.added(record)
            self.assertEqual(archive.records, records[:number - 1])
            self.assertEqual(longer.records, records[:number])
            self.assertEqual(whole.cut(number), longer)
            self.assertEqual(whole.cut(number).names, longer.names)
            archive = longer
        self.assertEqual(whole.cut(0), Archive([]))
        self.assertEqual(whole.records, records)

    def test_what_is_cut_off_is_not_spoken_of(self):
        archive = Archive(RIGHT).cut(1)
        self.assertEqual(raised(archive.added, ("list", (("b", 0),))), ("BadRecord", {"number": 2}))
        self.assertEqual(len(archive.added(("list", (("a", 1),)))), 2)

    def test_added_leaves_the_archive_without_the_name(self):
        archive = Archive([HEAD])
        archive.added(("head", "b", FILE))
        self.assertEqual(raised(archive.added, ("list", (("b", 0),))), ("BadRecord", {"number": 2}))
        self.assertEqual(archive.names, ["a"])

    def test_heads(self):
        archive = Archive([
            HEAD, ("strike", "a"), ("head", "b", FILE), ("list", (("a", 3),)), HEAD, ("head", "a/b", FILE)])
        self.assertEqual([archive.heads_of(name) for name in ("a", "b", "a/b", "c")], [[1, 5], [3], [6], []])
        for value in VALUES:
            self.assertEqual(archive.heads_of(value), [1, 5] if value == "a" else [], value)

    def test_each_kind_of_tuple_of_a_line(self):
        archive = Archive([
            HEAD, ("strike", "a"), ("head", "b", FILE), ("strike", "b"), ("list", (("a", 4),)),
            ("list", (("a", 0), ("b", 3))), ("list", (("b", 0),)), HEAD, ("list", (("a", 1),)), ("list", (("a", 9),)),
            ("list", ())])
        self.assertEqual(archive.line("a"), [
            ("head", 1), ("strike", 0), ("other", 0), ("other", 0), ("named", 1), ("struck", 0), ("absent", 0),
            ("head", 8), ("named", 8), ("named", 1), ("absent", 0)])
        self.assertEqual(archive.line("b"), [
            ("other", 0), ("other", 0), ("head", 3), ("strike", 0), ("absent", 0), ("named", 3), ("struck", 0),
            ("other", 0), ("absent", 0), ("absent", 0), ("absent", 0)])
        self.assertEqual(archive.line("c"), [
            ("other", 0), ("other", 0), ("other", 0), ("other", 0), ("absent", 0), ("absent", 0), ("absent", 0),
            ("other", 0), ("absent", 0), ("absent", 0), ("absent", 0)])

    def test_lines(self):
        rng = random.Random(6)
        for size in (5, 20, 80):
            records = random_records(rng, size, ["a", "b", "a/b", " "])
            for name in ("a", "b", "a/b", " ", "none"):
                line = Archive(records).line(name)
                self.assertEqual(line, line_of(records, name))
                self.assertTrue(all(type(told) is tuple for told in line))


class Copies(unittest.TestCase):
    def test_what_was_handed_in(self):
        records = list(RIGHT)
        archive = Archive(records)
        records[0] = ("strike", "z")
        records.append(HEAD)
        self.assertEqual([archive.records, len(archive), archive.names], [RIGHT, 3, ["a", "b"]])

    def test_what_was_told(self):
        archive = Archive(RIGHT)
        archive.records.clear()
        archive.names.append("z")
        archive.heads_of("a").append(9)
        archive.line("a").clear()
        self.assertEqual([archive.records, archive.names, archive.heads_of("a")], [RIGHT, ["a", "b"], [1]])
        self.assertEqual(archive.line("a"), line_of(RIGHT, "a"))
        self.assertEqual(raised(archive.added, ("list", (("z", 0),))), ("BadRecord", {"number": 4}))

    def test_kinds(self):
        archive = Archive(RIGHT)
        told = [archive.records, archive.names, archive.heads_of("a"), archive.heads_of("z"), archive.line("a")]
        self.assertTrue(all(type(value) is list for value in told))
        for value in (archive + archive, archive.cut(1), archive.added(HEAD)):
            self.assertIs(type(value), Archive)

    def test_long_archives(self):
        names = ["n" + str(number) for number in range(5000)]
        archive = Archive([("head", name, FILE) for name in names] + [("list", ())] * 5000)
        self.assertEqual([len(archive), archive.names, archive.heads_of("n77")], [10000, sorted(names), [78]])
        longer = Archive([])
        for number in range(3000):
            longer = longer.added(("list", (("a", 1),)) if number % 2 else HEAD)
        self.assertEqual([len(longer), longer[3000]], [3000, ("list", (("a", 1),))])


if __name__ == "__main__":
    unittest.main()
