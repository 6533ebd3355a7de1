"""Points 3, 21, 22, 27, 28 and 29 for twolistings.trees: parents, clean tables, answers of paths, orders."""

import itertools
import random
import unittest

from samples import VALUES, raised
from twolistings.trees import answer, by_parts, first_unclean, order_keeps, parent

FOLDER, FILE = ("folder",), ("file", "x")
TREE = {"p": FOLDER, "p/c": FILE, "l": ("link", "p"), "m": ("link", "m")}
NO_NAMES = [*[value for value in VALUES if value not in ("a", "head", "rest", "same")], "/", "a/", "/a", "a//b", ".",
            "..", "a/./b", "a/..", "\t", "a\n", "\x7f", "\u00e9", "a" * 61, "/".join("abcdefghi"), ("a",), b"a"]


def parent_by_words(name):
    return "/".join(name.split("/")[:-1]) or None


def answer_by_words(table, path, way=()):
    """The answer of a path by the words of point 21, for short ways; way is what led to it."""
    if path in way:
        return "round", ""
    way = (*way, path)
    place = path
    if "/" in path:
        word, above = answer_by_words(table, parent_by_words(path), way)
        if word == "round":
            return "round", ""
        if word == "missing" or table[above] != FOLDER:
            return "missing", ""
        place = above + "/" + path.split("/")[-1]
    if place not in table:
        return "missing", ""
    if table[place][0] == "link":
        return answer_by_words(table, table[place][1], way)
    return "place", place


def unclean_by_words(table):
    return sorted(name for name in table if parent_by_words(name) and table.get(parent_by_words(name)) != FOLDER)


def random_table(rng, names, size):
    kinds = [FOLDER, FOLDER, FILE, "link"]
    table = {}
    for name in rng.sample(names, size):
        kind = rng.choice(kinds)
        table[name] = ("link", rng.choice(names)) if kind == "link" else kind
    return table


NAMES = ["a", "b", "c", "a/b", "a/c", "b/a", "a/b/c", "b/a/c", "c/a/b/c", "a/a", "c/c"]


class Parents(unittest.TestCase):
    def test_names(self):
        for name, above in [("a", None), ("a/b", "a"), ("a/b/c", "a/b"), ("x y/z", "x y"), ("...", None), (" / ", " "),
                            ("/".join("abcdefgh"), "/".join("abcdefg")), ("a" * 30 + "/" + "b" * 29, "a" * 30)]:
            self.assertEqual(parent(name), above)
        self.assertEqual(parent(name="p/c"), "p")

    def test_bad_names(self):
        for value in NO_NAMES:
            self.assertEqual(raised(parent, value), ("BadName", {}), value)

    def test_where_the_interface_is_defined(self):
        for value in (parent, first_unclean, answer, by_parts, order_keeps):
            self.assertEqual(value.__module__, "twolistings.trees")

    def test_example(self):
        told = [parent("p/c"), answer(TREE, "l/c"), answer(TREE, "l/d"), answer(TREE, "m"), first_unclean(TREE),
                order_keeps(TREE, ["l", "m", "p/c", "p"]), by_parts(TREE)]
        self.assertEqual(told, ["p", ("place", "p/c"), ("missing", ""), ("round", ""), None, 2, ["l", "m", "p", "p/c"]])


class CleanTables(unittest.TestCase):
    def test_small_tables(self):
        for table, name in [({}, None), ({"a": FILE}, None), ({"a/b": FILE}, "a/b"),
                            ({"a": FILE, "a/b": FOLDER}, "a/b"), ({"a": FOLDER, "a/b": FILE}, None),
                            ({"a": ("link", "b"), "b": FOLDER, "a/c": FILE}, "a/c"),
                            ({"a": FOLDER, "a/b/c": FILE}, "a/b/c"), ({"z/a": FILE, "b/z": FILE, "c": FILE}, "b/z"),
                            ({"a/b/c": FILE, "a/b": FOLDER}, "a/b"), ({"b/c": FILE, "b/c/d": FILE}, "b/c")]:
            self.assertEqual(first_unclean(table), name)
            self.assertEqual(first_unclean(table=table), name)

    def test_drawn_tables(self):
        rng, found = random.Random(71), []
        for _ in range(300):
            table = random_table(rng, NAMES, rng.randrange(len(NAMES)))
            expected = unclean_by_words(table)
            found.append(first_unclean(table))
            self.assertEqual(found[-1], expected[0] if expected else None)
        self.assertGreater(len(set(found)), 4)

    def test_a_table_is_clean_exactly_if_some_order_keeps_and_then_that_by_parts_does(self):
        rng, found = random.Random(72), []
        for _ in range(120):
            table = random_table(rng, NAMES, rng.randrange(6))
            keeps = any(order_keeps(table, list(order)) is None for order in itertools.permutations(table))
            self.assertEqual(keeps, first_unclean(table) is None)
            self.assertEqual(order_keeps(table, by_parts(table)) is None, keeps)
            found.append(keeps)
        self.assertGreater(min(found.count(True), found.count(False)), 20)


class Answers(unittest.TestCase):
    def test_places(self):
        table = {"a": FOLDER, "a/b": FOLDER, "a/b/c": FILE, "f": FILE}
        for path, told in [("a", ("place", "a")), ("a/b", ("place", "a/b")), ("a/b/c", ("place", "a/b/c")),
                           ("f", ("place", "f")), ("g", ("missing", "")), ("a/c", ("missing", "")),
                           ("a/b/c/d", ("missing", "")), ("f/a", ("missing", "")), ("g/a", ("missing", ""))]:
            self.assertEqual(answer(table, path), told)

    def test_links(self):
        table = {"d": FOLDER, "d/f": FILE, "d/l": ("link", "d"), "one": ("link", "two"), "two": ("link", "d"),
                 "far": ("link", "one/l/f"), "gone": ("link", "no"), "file": ("link", "d/f"),
                 "deep": ("link", "d/l/l/l")}
        for path, told in [
                ("one", ("place", "d")), ("one/f", ("place", "d/f")), ("d/l", ("place", "d")),
                ("d/l/l/l/l/l/l/f", ("place", "d/f")), ("far", ("place", "d/f")), ("gone", ("missing", "")),
                ("gone/f", ("missing", "")), ("file", ("place", "d/f")), ("file/x", ("missing", "")),
                ("deep/f", ("place", "d/f")), ("one/two", ("missing", ""))]:
            self.assertEqual(answer(table, path), told)
            self.assertEqual(answer(path=path, table=table), told)

    def test_a_place_without_a_parent_in_the_table(self):
        table = {"a/b": FILE, "l": ("link", "a/b"), "f": FILE, "f/x": FILE, "k": ("link", "f/x")}
        for path in ("a/b", "l", "f/x", "k", "a"):
            self.assertEqual(answer(table, path), ("missing", ""))

    def test_what_goes_round(self):
        table = {"m": ("link", "m"), "a": ("link", "b"), "b": ("link", "c"), "c": ("link", "a"), "to": ("link", "b"),
                 "own": ("link", "own/x"), "d": FOLDER, "d/up": ("link", "d/up/x"), "d/ok": ("link", "d"),
                 "x": ("link", "d/m"), "d/m": ("link", "x/y")}
        for path in ("m", "a", "b", "c", "to", "own", "own/x", "m/x", "to/x/y", "d/up", "d/up/z", "d/ok/up", "x",
                     "d/m"):
            self.assertEqual(answer(table, path), ("round", ""), path)
        for path, told in [("d/ok/ok", ("place", "d")), ("d/x", ("missing", "")), ("n/m", ("missing", ""))]:
            self.assertEqual(answer(table, path), told)

    def test_the_target_is_needed_only_if_the_parent_is_a_folder(self):
        # "f" is no folder, so that its name below, a link to itself, is not looked at.
        table = {"f": FILE, "f/m": ("link", "f/m"), "e/m": ("link", "e/m"), "d": FOLDER, "d/m": ("link", "d/m")}
        self.assertEqual([answer(table, path) for path in ("f/m", "e/m", "d/m")],
                         [("missing", ""), ("missing", ""), ("round", "")])

    def test_the_same_path_twice_on_two_ways_is_not_round(self):
        # The parent of "l/l2" leads to "d", and so does its own target.
        table = {"d": FOLDER, "l": ("link", "d"), "d/l2": ("link", "l"), "d/f": FILE}
        self.assertEqual(answer(table, "l/l2/l2/f"), ("place", "d/f"))

    def test_drawn_tables(self):
        rng, words = random.Random(73), []
        for _ in range(400):
            table = random_table(rng, NAMES, rng.randrange(4, len(NAMES) + 1))
            for path in [*NAMES, "a/b/c/a", "c/c/c", "d"]:
                told = answer(table, path)
                self.assertEqual(told, answer_by_words(table, path))
                words.append(told[0])
        for word in ("place", "missing", "round"):
            self.assertGreater(words.count(word), 100)

    def test_a_long_chain(self):
        table = {f"l{number}": ("link", f"l{number + 1}") for number in range(1500)}
        self.assertEqual(answer(table, "l0"), ("missing", ""))
        table["l1500"] = FOLDER
        table["l1500/f"] = FILE
        self.assertEqual(answer(table, "l0"), ("place", "l1500"))
        self.assertEqual(answer(table, "l0/f"), ("place", "l1500/f"))
        table["l1500"] = ("link", "l700")
        self.assertEqual(answer(table, "l0/f"), ("round", ""))

    def test_paths_of_eight_parts(self):
        table = {"/".join("abcdefgh"[:size]): FOLDER for size in range(1, 8)}
        path = "/".join("abcdefgh")
        self.assertEqual(answer(table, path), ("missing", ""))
        self.assertEqual(answer({**table, path: FILE}, path), ("place", path))
        self.assertEqual(answer({**table, "z": ("link", "a/b/c/d/e/f/g"), path: FILE}, "z/h"), ("place", path))
        # With a link below it, the place would have too many parts for a name.
        self.assertEqual(answer({**table, path: FOLDER, "z": ("link", path)}, "z/i"), ("missing", ""))

    def test_bad_names(self):
        for value in NO_NAMES:
            self.assertEqual(raised(answer, TREE, value), ("BadName", {}), value)
            self.assertEqual(raised(answer, {}, value), ("BadName", {}), value)

    def test_the_table_stays(self):
        table = dict(TREE)
        for path in ("l/c", "m/x", "q"):
            answer(table, path)
        self.assertEqual(list(table.items()), list(TREE.items()))


class Orders(unittest.TestCase):
    def test_by_parts(self):
        names = ["b/a", "b", "a b", "a/z/c", "a/b", "a", "a/b/c", "aa", "a/b/c/d", "a-b", "a.b/c"]
        table = {name: FOLDER for name in names}
        self.assertEqual(by_parts(table), ["a", "a b", "a-b", "aa", "b", "a.b/c", "a/b", "b/a", "a/b/c", "a/z/c",
                                           "a/b/c/d"])
        self.assertEqual(by_parts(table={}), [])
        self.assertIsNot(by_parts(table), by_parts(table))
        self.assertEqual(list(table), names)

    def test_the_first_place(self):
        table = {"a": FOLDER, "a/b": FOLDER, "a/b/c": FILE, "z": FILE}
        for order, at in [(["a", "a/b", "a/b/c", "z"], None), (["z", "a", "a/b", "a/b/c"], None),
                          (["a/b", "a", "a/b/c", "z"], 0), (["a", "a/b/c", "a/b", "z"], 1),
                          (["z", "a", "a/b/c", "a/b"], 2),
                          (["z", "a/b/c", "a/b", "a"], 1)]:
            self.assertEqual(order_keeps(table, order), at)
            self.assertEqual(order_keeps(order=order, table=table), at)
        self.assertEqual(order_keeps({"a": FILE, "a/b": FILE}, ["a", "a/b"]), 1)
        self.assertEqual(order_keeps({"a": ("link", "a"), "b": FOLDER, "a/b": FILE}, ["b", "a", "a/b"]), 2)
        self.assertEqual(order_keeps({"b/c": FILE, "a": FILE}, ["a", "b/c"]), 1)
        self.assertIsNone(order_keeps({}, []))

    def test_drawn_orders(self):
        rng, found = random.Random(74), []
        for _ in range(300):
            table = random_table(rng, NAMES, rng.randrange(7))
            order = rng.sample(sorted(table), len(table))
            expected = None
            for at, name in reversed(list(enumerate(order))):
                above = parent_by_words(name)
                if above and not (above in order[:at] and table[above] == FOLDER):
                    expected = at
            found.append(order_keeps(table, order))
            self.assertEqual(found[-1], expected)
        self.assertGreater(len(set(found)), 3)

    def test_long_orders(self):
        table = {f"n{number}": FOLDER for number in range(5000)}
        table.update({f"n{number}/f": FILE for number in range(5000)})
        order = by_parts(table)
        self.assertIsNone(order_keeps(table, order))
        self.assertEqual(order_keeps(table, order[:4000] + order[5000:] + order[4000:5000]), 8000)

    def test_bad_orders(self):
        table = {"a": FOLDER, "a/b": FILE, "c": FILE}
        right = ["a", "a/b", "c"]
        for value in [*VALUES, right[:2], right[1:], [*right, "a"], [*right, "d"], ["a", "a", "c"], ["a", "a/b", "d"],
                      ["a", "a/b", None], ["a", "a/b", ["c"]], ["a", "a/b", ("c",)], ["a", "a/b", 0],
                      ["a", "a/b", True], tuple(right), dict(table), "a", ["a/b", "a/b", "a/b"], [right],
                      ["a", "a/b", []]]:
            self.assertEqual(raised(order_keeps, table, value), ("BadOrder", {}), value)
            if value != []:
                self.assertEqual(raised(order_keeps, {}, value), ("BadOrder", {}), value)
        self.assertIsNone(order_keeps(table, right))

    def test_the_table_and_the_order_stay(self):
        table, order = dict(TREE), ["p", "p/c", "m", "l"]
        order_keeps(table, order)
        by_parts(table)
        first_unclean(table)
        self.assertEqual((list(table.items()), order), (list(TREE.items()), ["p", "p/c", "m", "l"]))


if __name__ == "__main__":
    unittest.main()
