"""union: numbers and refusals; dual and minor of a union."""

import unittest

from tests.helper import (
    BEGIN, FULL, HIGHEST, LOWEST, MOST_KINDS, UNFIT, WRONG,
    answered, best, circuit, closure, dual, graph, last, minor, parts, rank, rows, seats, table, union,
)

PLAIN = {
    "graph": graph(3, [0, 1, 1, 0, 2, 2]),
    "table": table(3, 5, rows([1], [2], [0, 1])),
    "parts": parts([0, 0, 15]),
    "seats": seats([1, 1, 6]),
}


class Numbers(unittest.TestCase):
    def test_beside_those_of_the_other_calls(self):
        calls = [graph(2), union(0, 0), seats([1, 2]), union(0, 2), dual(1), minor(3, 1, 2), union(2, 0), table(2, 3)]
        self.assertEqual(answered(*calls), list(range(8)))

    def test_all_pairs_of_sorts(self):
        for one in PLAIN.values():
            for other in PLAIN.values():
                self.assertEqual(answered(one, other, union(0, 1), union(1, 0)), [0, 1, 2, 3])

    def test_of_duals_and_minors(self):
        for one in PLAIN.values():
            calls = [one, dual(0), minor(0, 1, 2), minor(1, 4, 0), dual(2)]
            calls += [union(a, b) for a in range(5) for b in range(5)]
            self.assertEqual(answered(*calls), list(range(30)))

    def test_a_kind_with_itself(self):
        for one in PLAIN.values():
            self.assertEqual(answered(one, union(0, 0), union(0, 0)), [0, 1, 2])

    def test_no_things(self):
        for one in (graph(0), table(0, 2), parts([]), seats([])):
            for other in (graph(0), table(0, 2), parts([]), seats([])):
                calls = (one, other, union(0, 1), rank(2, 0), dual(2), minor(2), rank(4, 0), rank(5, 0))
                self.assertEqual(answered(*calls), [0, 1, 2, 0, 3, 4, 0, WRONG])


class Missing(unittest.TestCase):
    def test_none_there(self):
        for m in (LOWEST, -1, 0, 1, HIGHEST):
            self.assertEqual(answered(union(m, m)), [WRONG])

    def test_two_there(self):
        for m in (LOWEST, -3, -2, -1, 2, 3, 32, HIGHEST):
            with self.subTest(m):
                given = answered(graph(1), graph(1), union(m, 0), union(0, m), union(m, m), union(0, 1))
                self.assertEqual(given, [0, 1, WRONG, WRONG, WRONG, 2])

    def test_gone_by_begin(self):
        self.assertEqual(answered(graph(1), graph(1), BEGIN, graph(1), union(0, 1), union(0, 0)), [0, 1, 0, 0, WRONG, 1])


class NotEquallyMany(unittest.TestCase):
    def test_all_sizes(self):
        for n in range(10):
            for m in range(10):
                given = answered(seats([1] * n), graph(m), union(0, 1), union(1, 0))
                self.assertEqual(given, [0, 1, 2, 3] if n == m else [0, 1, WRONG, WRONG])

    def test_things_taken_away_still_count(self):
        given = answered(graph(3), graph(2), minor(0, 4, 0), union(1, 2), union(0, 2), dual(1), union(5, 0), union(4, 1))
        self.assertEqual(given, [0, 1, 2, WRONG, 3, 4, WRONG, 5])


class OfUnions(unittest.TestCase):
    # 0 is plain; 1 is a union; 2 and 3 are made from it, 4 and 5 from these.
    calls = [graph(2), union(0, 0), dual(1), minor(1, 1, 2), minor(2, 0, 1), dual(4)]
    numbers = [0, 1, 2, 3, 4, 5]

    def test_a_or_b_is_or_is_made_from_one(self):
        for m in range(1, 6):
            with self.subTest(m):
                given = answered(*self.calls, union(m, 0), union(0, m), union(m, m), union(m, 1), union(0, 0))
                self.assertEqual(given, self.numbers + [UNFIT] * 4 + [6])

    def test_many_steps(self):
        calls = [graph(2), union(0, 0)]
        for m in range(1, 30):
            calls.append(dual(m) if m % 2 else minor(m, 0, 1))
        self.assertEqual(answered(*calls, union(30, 0), union(0, 30)), list(range(31)) + [UNFIT, UNFIT])

    def test_what_a_union_is_made_from_is_none(self):
        given = answered(graph(2), dual(0), union(0, 1), union(1, 0), minor(1, 1, 0), union(4, 1))
        self.assertEqual(given, [0, 1, 2, 3, 4, 5])

    def test_wrong_comes_before(self):
        for m in range(1, 6):
            with self.subTest(m):
                given = answered(*self.calls, graph(3), union(m, -1), union(-1, m), union(m, 7), union(7, m),
                                 union(m, 6), union(6, m))
                self.assertEqual(given, self.numbers + [6] + [WRONG] * 6)

    def test_begin_forgets_it(self):
        self.assertEqual(answered(*self.calls, BEGIN, *[graph(2)] * 2, union(0, 1))[-1], 2)


class Full(unittest.TestCase):
    def setUp(self):
        # 0 and 1 are plain with 9 things, 2 has fewer, 3 is a union, 4 is made from it.
        self.calls = [graph(9), seats([1] * 9), graph(8), union(0, 1), dual(3)]
        self.calls += [graph(0)] * (MOST_KINDS - len(self.calls))
        self.numbers = list(range(MOST_KINDS))

    def test_refused(self):
        given = answered(*self.calls, union(0, 1), union(1, 1), union(5, 6))
        self.assertEqual(given, self.numbers + [FULL] * 3)

    def test_the_last_place_is_free(self):
        given = answered(*self.calls[:-1], union(0, 1), union(0, 1))
        self.assertEqual(given, self.numbers + [FULL])

    def test_unfit_comes_before(self):
        given = answered(*self.calls, union(3, 0), union(0, 3), union(4, 1), union(1, 4), union(3, 3))
        self.assertEqual(given, self.numbers + [UNFIT] * 5)

    def test_wrong_comes_before(self):
        given = answered(*self.calls, union(0, 32), union(-1, 0), union(0, 2), union(3, 2), union(2, 4), union(3, -1))
        self.assertEqual(given, self.numbers + [WRONG] * 6)

    def test_begin_makes_room(self):
        self.assertEqual(answered(*self.calls, BEGIN, graph(0), union(0, 0))[-3:], [0, 0, 1])


class MadeFromOne(unittest.TestCase):
    # Four edges between two points, twice: two of the four can stand together; thing 4 never can.
    twice = [graph(5, [0, 1, 1, 0, 0, 1, 1, 0, 7, 7]), union(0, 0)]

    def test_numbers_and_refusals(self):
        calls = self.twice + [dual(1), minor(1, 3, 4), dual(3), minor(2, 1, 0)]
        self.assertEqual(answered(*calls), [0, 1, 2, 3, 4, 5])
        given = answered(*self.twice, dual(2), minor(2), minor(1, 32, 0), minor(1, 0, 32), minor(1, 1, 1), dual(1))
        self.assertEqual(given, [0, 1, WRONG, WRONG, WRONG, WRONG, WRONG, 2])

    def test_refused_where_full(self):
        calls = self.twice + [graph(0)] * 30
        given = answered(*calls, dual(1), minor(1), minor(1, 1, 1), dual(32))
        self.assertEqual(given[32:], [FULL, FULL, WRONG, WRONG])

    def test_the_dual(self):
        calls = self.twice + [dual(1)]
        self.assertEqual(last(*calls, rank(2, 31)), [3])
        self.assertEqual(last(*calls, rank(2, 0b01111)), [2])
        self.assertEqual(last(*calls, closure(2, 0b00011)), [4, 0b01111])
        self.assertEqual(last(*calls, closure(2, 0)), [0, 0])
        self.assertEqual(last(*calls, circuit(2, 0b00011, 3)), [3, 0b01011])
        self.assertEqual(last(*calls, circuit(2, 0b00011, 4)), [UNFIT])
        self.assertEqual(last(*calls, best(2, [1, 2, 3, 4, 0])), [3, 0b11100])

    def test_a_minor(self):
        calls = self.twice + [minor(1, 1, 2)]
        self.assertEqual(last(*calls, rank(2, 31)), [1])
        self.assertEqual(last(*calls, rank(2, 3)), [0])
        self.assertEqual(last(*calls, closure(2, 0)), [3, 0b10011])
        self.assertEqual(last(*calls, closure(2, 4)), [5, 31])
        self.assertEqual(last(*calls, circuit(2, 4, 3)), [2, 0b01100])
        self.assertEqual(last(*calls, circuit(2, 4, 1)), [1, 0b00010])
        self.assertEqual(last(*calls, best(2, [5, 4, 3, 3, 9])), [1, 0b00100])


if __name__ == "__main__":
    unittest.main()
