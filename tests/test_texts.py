"""Points 3, 25 to 29 for twolistings.texts: texts of archives, what they read as, and three readers of them."""

import random
import unittest

from samples import FILE, VALUES, raised, random_records, table_by_lines
from twolistings.archives import Archive
from twolistings.books import verdict
from twolistings.readers import things
from twolistings.rules import Rule
from twolistings.texts import by_all, from_end, from_front, read, show, whole_part

NAMES = ["a", "b^c", "d;e", "f:g", "h,i", "^1", ";:,^", "a/b ;/~", "l", "0", "h", "s", "d"]
THINGS = [("folder",), FILE, ("file", "a;b^c:d,e"), ("file", "d"), ("file", "^2;"), ("link", "x/y"), ("link", "a,b^:"),
          ("file", "~" * 200), ("file", " ")]
READERS = [(from_front, Rule.checking()), (from_end, Rule.last_list()), (by_all, Rule.all_lists())]


def text_by_words(records):
    """The text of records, by the words of point 25."""
    def marked(text):
        return "".join({"^": "^1", ";": "^2", ":": "^3", ",": "^4"}.get(sign, sign) for sign in text)
    starts, text = [None], ""
    for number, record in enumerate(records, start=1):
        starts.append(len(text))
        if record[0] == "head":
            thing = record[2]
            told = {"folder": "d", "file": "f", "link": "l"}[thing[0]] + "".join(marked(more) for more in thing[1:])
            text += "h" + marked(record[1]) + ":" + told + ";"
        elif record[0] == "strike":
            text += "s" + marked(record[1]) + ";"
        else:
            items = [(name, starts[number] - starts[number - back] if back else 0) for name, back in record[1]]
            text += "l" + ",".join(f"{marked(name)}:{far}" for name, far in items) + ";"
    return text


def some_records(rng, size):
    records = random_records(rng, size, rng.sample(NAMES, rng.randrange(1, len(NAMES))))
    return [("head", record[1], rng.choice(THINGS)) if record[0] == "head" else record for record in records]


class Texts(unittest.TestCase):
    def test_where_the_interface_is_defined(self):
        for value in (show, read, whole_part, from_front, from_end, by_all):
            self.assertEqual(value.__module__, "twolistings.texts")

    def test_examples(self):
        text = show(Archive([("head", "a", ("file", "x,y")), ("list", (("a", 1),)), ("strike", "a")]))
        thing = {"a": ("file", "x,y")}
        self.assertEqual([text, from_front(text), from_end(text), by_all(text[:-1])],
                         ["ha:fx^4y;la:9;sa;", thing, thing, thing])
        self.assertEqual(raised(read, "ha:d;la:4;"), ("BadText", {"number": 2}))

    def test_small_texts(self):
        head = ("head", "a", ("folder",))
        for records, text in [
                ([], ""), ([("list", ())], "l;"), ([("strike", "a/b")], "sa/b;"), ([head], "ha:d;"),
                ([("head", "a", ("file", ""))], "ha:f;"), ([("head", "a", ("link", "b c"))], "ha:lb c;"),
                ([head, ("list", (("a", 0),))], "ha:d;la:0;"), ([head, ("list", (("a", 1),))], "ha:d;la:5;"),
                ([head, ("list", ()), head, ("list", (("a", 1),)), ("list", (("a", 4),))], "ha:d;l;ha:d;la:5;la:17;"),
                ([head, ("head", "b", ("link", "b")), ("list", (("a", 2), ("b", 1)))], "ha:d;hb:lb;la:11,b:6;"),
                ([("head", "^;:,", ("file", ",:;^"))], "h^1^2^3^4:f^4^3^2^1;"), ([("strike", "^1")], "s^11;"),
                ([("head", "l", ("link", "l"))], "hl:ll;"), ([("head", "h", ("file", "d"))], "hh:fd;"),
                ([("head", "d", FILE), ("list", (("d", 1),))], "hd:f;ld:5;"),
                ([("head", ":", ("link", "a;/b"))], "h^3:la^2/b;")]:
            self.assertEqual(show(Archive(records)), text)
            self.assertEqual(read(text), Archive(records))
            self.assertEqual(text_by_words(records), text)

    def test_drawn_archives(self):
        rng = random.Random(81)
        for _ in range(150):
            records = some_records(rng, rng.randrange(25))
            archive = Archive(records)
            text = show(archive)
            self.assertEqual(text, text_by_words(records))
            self.assertEqual(read(text).records, records)
            self.assertEqual(show(read(text)), text)
            self.assertEqual(archive.records, records)

    def test_numbers_of_several_digits(self):
        records = [("head", "a", ("file", "x" * 195)), *[("strike", "b")] * 400, ("list", (("a", 401),)),
                   ("list", (("a", 402),))]
        text = show(Archive(records))
        self.assertTrue(text.endswith(";la:1400;la:1408;"), text[-30:])
        self.assertEqual(read(text).records, records)

    def test_long_archives(self):
        records = [("head", "a", FILE), ("list", (("a", 1),)), ("strike", "a"), ("list", (("a", 0),))] * 5000
        records.append(("list", (("a", 20000),)))
        text = show(Archive(records))
        self.assertTrue(text.endswith(";la:90000;"), text[-30:])
        self.assertEqual(read(text).records, records)
        self.assertEqual([by_all(text), from_end(text), from_front(text)], [{"a": FILE}, {"a": FILE}, {}])

    def test_by_name(self):
        archive = Archive([("strike", "a")])
        self.assertEqual([show(archive=archive), read(text="sa;"), whole_part(text="sa;s")], ["sa;", archive, "sa;"])
        self.assertEqual([from_front(text=""), from_end(text=""), by_all(text="")], [{}, {}, {}])


class WholeParts(unittest.TestCase):
    def test_beginnings(self):
        for text, part in [("", ""), ("a", ""), (";", ";"), ("ha:d;", "ha:d;"), ("ha:d;l", "ha:d;"),
                           ("ha:d;l;s^2", "ha:d;l;"),
                           ("x;y", "x;"), (";;", ";;")]:
            self.assertEqual(whole_part(text), part)

    def test_the_whole_part_is_the_text_of_the_beginning_of_the_archive(self):
        rng = random.Random(82)
        for _ in range(20):
            archive = Archive(some_records(rng, 12))
            text = show(archive)
            beginnings = {show(archive.cut(number)) for number in range(len(archive) + 1)}
            sizes = sorted(len(part) for part in beginnings)
            for size in range(len(text) + 1):
                part = whole_part(text[:size])
                self.assertIn(part, beginnings)
                self.assertEqual(len(part), max(many for many in sizes if many <= size))


class Readers(unittest.TestCase):
    def test_beginnings_cut_at_each_character(self):
        rng = random.Random(83)
        for _ in range(12):
            records = some_records(rng, 14)
            text = show(Archive(records))
            for size in range(len(text) + 1):
                beginning = Archive(records[:text[:size].count(";")])
                for reader, rule in READERS:
                    expected = things(beginning, table_by_lines(rule, beginning.records))
                    self.assertEqual(reader(text[:size]), expected)

    def test_they_differ(self):
        head, other = ("head", "a", FILE), ("head", "b", ("folder",))
        text = show(Archive([head, other, ("list", (("a", 2), ("b", 1))), ("strike", "b"), ("list", (("a", 4),))]))
        self.assertEqual([reader(text) for reader, _ in READERS],
                         [{"a": FILE, "b": ("folder",)}, {"a": FILE}, {"a": FILE, "b": ("folder",)}])
        text = show(Archive([head, ("list", (("a", 1),)), head, ("list", (("a", 3),)), ("list", ())]))
        self.assertEqual([reader(text) for reader, _ in READERS], [{"a": FILE}, {}, {"a": FILE}])
        text = show(Archive([head, ("strike", "a"), ("list", (("a", 2),))]))
        self.assertEqual([reader(text) for reader, _ in READERS], [{}, {"a": FILE}, {"a": FILE}])

    def test_the_three_rules_have_a_book(self):
        self.assertEqual(verdict([rule for _, rule in READERS], "EL", "sure")[0], "yes")

    def test_they_raise_as_read_does(self):
        for text in ["x;", "ha:d;la:4;", "ha:d;la:05;l;", "sa;;sa", "ha:x;sa;ha", "sa;la:0;"]:
            told = raised(read, whole_part(text))
            self.assertEqual(told[0], "BadText")
            for reader, _ in READERS:
                self.assertEqual(raised(reader, text), told)
        for reader, _ in READERS:
            for text in ["", "ha:d", "no text at all", "x", "^9"]:
                self.assertEqual(reader(text), {})
            self.assertEqual(reader("ha:d;x"), {})
            for value in VALUES:
                if type(value) is not str:
                    self.assertEqual(raised(reader, value), ("BadText", {"number": 1}), value)


class BadTexts(unittest.TestCase):
    def bad(self, text, number):
        self.assertEqual(raised(read, text), ("BadText", {"number": number}), text[:80])

    def test_values_that_are_no_texts(self):
        for value in [*VALUES, b"sa;", Archive([])]:
            if type(value) is not str:
                self.assertEqual(raised(read, value), ("BadText", {"number": 1}), value)

    def test_records_that_are_written_wrongly(self):
        wrong = [
            "", "x", "a", "H", "h", "s", "ha", "ha:", "ha:x", "ha:D", "ha:dd", "ha:d ", "ha:d:", "ha:d:d", "h:d",
            "h:fa", ":d",
            "ha:fx:y", "ha:fx,y", "ha:f^", "ha:f^5", "ha:f^0", "ha:f^^", "ha:fx^", "ha:f\n", "ha:f\u00e9", "ha,b:d",
            "ha^:d", "ha^x:d", "ha//b:d", "ha/.:d", "h/a:d", "ha:l", "ha:la//b", "ha:l/", "ha:l..", "ha:f" + "x" * 201,
            "h" + "a" * 61 + ":d", "ha:^d", "ha:^1", "Ha:d", " ha:d", "hha:d:", "ha:m", "ha:1", "h a :d:",
            "sa:", "sa,b", "sa^", "sa^5", "sa//b", "s.", "s ^", "sa:d", "s\t", "s" + "a" * 61, "sa^1^",
            "la", "la:", "l:0", "la:0,", "l,", "l,q:0", "lq:0,,r:0", "lq:0:0", "lq: 0", "lq:+0", "lq:-0", "lq:00",
            "lq:0 ",
            "lq:0x", "lq:0.0", "lq:0_0", "lq:", "lq:q", "lq^:0", "lq^5:0", "l q:0", "lq:0,q:0", "lr:0,q:0", "la:0",
            "lq:\u0660", "lq:\u00b2", "lq:\u0661", "lq:\uff10", "lQ:0", "lq//:0", "lq:\n0",
        ]
        # Names of which heads stand ahead, so that a list may speak of them.
        start = "hq:d;hr:f;"
        for part in wrong:
            self.bad(start + part + ";", 3)
            self.bad(start + part + ";x;sa;", 3)
            self.bad(start + "sa;" + part + ";", 4)
        self.bad("la:0;", 1)
        self.bad("la:0;ha:d;", 1)

    def test_distances(self):
        # The heads are 10 and 5 characters ahead of the list.
        start = "hq:d;hr:f;"
        self.assertEqual(read(start + "lq:10;").records[2], ("list", (("q", 2),)))
        self.assertEqual(read(start + "lr:5;").records[2], ("list", (("r", 1),)))
        for part in ["lq:010", "lq:+10", "lq:10 ", "lq: 10", "lq:1_0", "lq:5", "lr:10", "lq:9", "lq:11", "lq:1",
                     "lq:100",
                     "lq:-10", "lq:\u0661\u0660", "lq:1\u0660", "lq:\u00b9\u2070", "lq:\uff11\uff10", "lr:\u2164",
                     "lr:\u2075",
                     "lq:0010", "lq:1e1", "lq:0xa", "lq:10,r:6", "lq:9,r:5", "lq:10:", "lq:", "lr:5,q:10", "lq:10,q:10",
                     "lq:10,r:5,s:5", "lq:10.0", "lq:ten"]:
            self.bad(start + part + ";", 3)
        # Back to a strike, to a list, and to the list itself.
        self.bad("hq:d;sq;lq:3;", 3)
        self.bad("hq:d;l;lq:2;", 3)
        self.assertIsNone(raised(read, "hq:d;l;lq:7;"))
        self.bad("hq:d;lq:6;", 2)

    def test_very_long_numbers(self):
        for digits in ["9" * 5000, "1" + "0" * 100000, "0" * 5000, "5" * 19, "9" * 4301]:
            self.bad(f"hq:d;lq:{digits};", 2)
            self.bad(f"hq:d;lq:5;lq:{digits}", 3)

    def test_what_stands_behind_the_last_end(self):
        for rest in ["x", "ha:d", "s", "sa", " ", "\n", "^2", "l"]:
            self.bad(rest, 1)
            self.bad("ha:d;" + rest, 2)
            self.bad("ha:d;x;" + rest, 2)
            self.bad("ha:d;l;la:0;" + rest, 4)
        self.bad("ha:d;lb:0;x", 2)

    def test_the_first_of_several(self):
        self.bad("sa;la:0;x;", 2)
        self.bad("sa;x;la:0;", 2)
        self.bad("ha:d;la:5,b:0;hb:", 2)
        self.bad(";", 1)
        self.bad("sa;;", 2)

    def test_texts_with_a_character_changed(self):
        # What reads as an archive is written as this archive is.
        rng, bad = random.Random(84), 0
        for _ in range(60):
            text = show(Archive(some_records(rng, 8)))
            for _ in range(25):
                at = rng.randrange(len(text) + 1)
                sign = rng.choice(["", "0", "1", "5", "^", ";", ":", ",", "a", "h", "l", "s", "d", "f", "/", " ",
                                   "\u0661"])
                changed = text[:at] + sign + text[at + rng.randrange(2):]
                if raised(read, changed) is None:
                    self.assertEqual(show(read(changed)), changed)
                else:
                    bad += 1
        self.assertGreater(bad, 300)


if __name__ == "__main__":
    unittest.main()
