"""The interface of twolistings.closures: reached and route."""

import unittest

from twolistings.closures import reached, route


def by_table(table):
    return lambda value: table[value]


class Closures(unittest.TestCase):
    def check(self, first, after):
        """What the interface says of reached and route, for these arguments; the rows."""
        rows = reached(first, after)
        self.assertIs(type(rows), list)
        self.assertEqual(rows[0], (first, -1))
        values = [value for value, _ in rows]
        known = set(values)
        self.assertEqual(len(known), len(values))
        for place, (value, at) in enumerate(rows):
            self.assertIs(type(rows[place]), tuple)
            if place > 0:
                self.assertTrue(0 <= at < place)
                self.assertIn(value, after(values[at]))
        for value in values:
            self.assertTrue(known.issuperset(after(value)))
        for place in range(0, len(rows), 1 + len(rows) // 50):
            self.check_route(rows, place)
        return rows

    def check_route(self, rows, place):
        way = route(rows, place)
        self.assertIs(type(way), list)
        self.assertEqual([way[0], way[-1]], [rows[0][0], rows[place][0]])
        ahead = {value: at for value, at in rows}
        for before, value in zip(way, way[1:]):
            self.assertEqual(rows[ahead[value]][0], before)
        self.assertEqual(len(set(way)), len(way))

    def test_example(self):
        rows = reached(1, lambda number: [number + 1] if number < 4 else [])
        self.assertEqual([rows, route(rows, 2)], [[(1, -1), (2, 0), (3, 1), (4, 2)], [1, 2, 3]])

    def test_nothing_comes(self):
        self.assertEqual(reached("a", lambda value: []), [("a", -1)])
        self.assertEqual(route([("a", -1)], 0), ["a"])

    def test_values_that_come_again(self):
        rows = self.check(0, by_table({0: [1, 2], 1: [3, 0], 2: [3, 1], 3: [0, 1, 2, 3]}))
        self.assertEqual(sorted(value for value, _ in rows), [0, 1, 2, 3])

    def test_values_that_come_from_themselves(self):
        self.assertEqual(self.check(5, lambda value: [value]), [(5, -1)])
        self.assertEqual(self.check("a", by_table({"a": ["a", "b"], "b": ["b"]})), [("a", -1), ("b", 0)])

    def test_values_that_come_twice(self):
        self.assertEqual(self.check(0, by_table({0: [1, 1, 0, 1], 1: [1, 1]})), [(0, -1), (1, 0)])

    def test_what_does_not_come_has_no_tuple(self):
        rows = self.check(1, by_table({0: [1], 1: [2], 2: [], 3: [0, 1]}))
        self.assertEqual(rows, [(1, -1), (2, 0)])

    def test_integers(self):
        rows = self.check(0, lambda number: [(number * 7 + 1) % 50, -number, number * 3 % 50])
        self.assertIn(-1, [value for value, _ in rows])

    def test_large_integers(self):
        rows = self.check(10 ** 40, lambda number: [number // 10] if number else [])
        self.assertEqual(len(rows), 42)

    def test_strings(self):
        rows = self.check("", lambda text: [text + "a", "b" + text] if len(text) < 4 else [""])
        # Every text of so many "b" and, behind them, so many "a".
        self.assertEqual(len(rows), 15)

    def test_an_integer_and_its_string_are_two(self):
        rows = self.check(1, by_table({1: ["1", (1,)], "1": [1], (1,): [("1",)], ("1",): []}))
        self.assertEqual(len(rows), 4)

    def test_tuples(self):
        def after(place):
            row, col = place
            return [((row + 1) % 4, col), (row, (col + 1) % 5)]
        self.assertEqual(len(self.check((0, 0), after)), 20)

    def test_tuples_in_tuples(self):
        def after(value):
            role, done, readers = value
            return [("rest", 0, readers), (role, (done + 1) % 3, (readers[1], readers[0])), (role, done, ((), 0))]
        rows = self.check(("put", 0, ((0, "a"), (1, ("b", 2)))), after)
        self.assertIn(("rest", 0, ((1, ("b", 2)), (0, "a"))), [value for value, _ in rows])

    def test_after_with_one_list_filled_anew(self):
        kept = []

        def after(number):
            kept.clear()
            if number < 40:
                kept.extend([number * 2 + 1, number + 1, number + 1])
            return kept
        rows = self.check(0, after)
        self.assertEqual(sorted(value for value, _ in rows), [k for k in range(80) if k < 41 or k % 2 == 1])

    def test_after_with_one_list_that_stays(self):
        every = [3, 1, 2]
        rows = self.check(0, lambda value: every)
        self.assertEqual(sorted(rows), [(0, -1), (1, 0), (2, 0), (3, 0)])
        self.assertEqual(every, [3, 1, 2])

    def test_the_lists_of_after_are_left_as_they_are(self):
        table = {0: [2, 1, 2], 1: [0], 2: []}
        reached(0, by_table(table))
        self.assertEqual(table, {0: [2, 1, 2], 1: [0], 2: []})

    def test_after_that_asks_for_another_list(self):
        def after(number):
            inner = reached(number, lambda value: [value + 1] if value % 3 else [])
            return [value for value, _ in inner] + ([number + 1] if number < 10 else [])
        self.assertEqual(sorted(value for value, _ in self.check(1, after)), list(range(1, 13)))

    def test_long_chain(self):
        size = 100000
        rows = reached(0, lambda number: [number + 1] if number < size else [])
        self.assertEqual(rows, [(k, k - 1) for k in range(size + 1)])
        self.assertEqual(route(rows, size), list(range(size + 1)))
        self.assertEqual(route(rows, 3), [0, 1, 2, 3])

    def test_long_chain_of_tuples_back_to_the_first(self):
        size = 30000
        rows = self.check(("n", 0), lambda value: [("n", (value[1] + 1) % size), ("n", 0)])
        self.assertEqual(len(rows), size)

    def test_many_values_after_one(self):
        rows = self.check(-1, lambda number: list(range(2000)) if number < 0 else [-1])
        self.assertEqual(len(rows), 2001)

    def test_route_over_rows_in_another_order(self):
        rows = [("a", -1), ("d", 0), ("b", 0), ("c", 2), ("e", 1), ("f", 3)]
        self.assertEqual([route(rows, at) for at in range(6)], [
            ["a"], ["a", "d"], ["a", "b"], ["a", "b", "c"], ["a", "d", "e"], ["a", "b", "c", "f"]])

    def test_route_leaves_the_rows_as_they_are_and_tells_a_new_list(self):
        rows = [(0, -1), (1, 0), (2, 1)]
        route(rows, 2).append(9)
        self.assertEqual([rows, route(rows, 2)], [[(0, -1), (1, 0), (2, 1)], [0, 1, 2]])

    def test_reached_tells_a_new_list(self):
        after = by_table({0: [1], 1: []})
        reached(0, after).append(9)
        self.assertEqual(reached(0, after), [(0, -1), (1, 0)])

    def test_same_question_same_answer(self):
        def after(text):
            return [text[1:] + text[:1], text[::-1], text[:-1]] if text else []
        self.assertEqual(self.check("abcd", after), self.check("abcd", after))

    def test_by_name(self):
        rows = reached(after=lambda value: [], first=1)
        self.assertEqual(route(at=0, rows=rows), [1])


if __name__ == "__main__":
    unittest.main()
