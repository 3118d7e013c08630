"""The calls that make kinds, and begin: numbers and refusals; of union, more is in test_union."""

import unittest

from tests.helper import (
    BEGIN, FULL, GREATEST_PRIME, HIGHEST, LAST_SET, LOWEST, MOST_KINDS, WRONG,
    answered, dual, graph, minor, parts, seats, table, union,
)

# A call of each sort that is good wherever kind 0 is there.
GOOD = {
    "graph": graph(1),
    "table": table(1, 2),
    "parts": parts([0]),
    "seats": seats([1]),
    "dual": dual(0),
    "minor": minor(0),
    "union": union(0, 0),
}

# A call of each sort that is wrong wherever at most 32 kinds are there, kind 0 with 9 things.
BAD = {
    "graph": [graph(-1)],
    "table": [table(-1, 2), table(0, 1), table(1, 2, [2] * 16)],
    "parts": [parts([16])],
    "dual": [dual(-1), dual(32)],
    "minor": [minor(-1), minor(32), minor(0, 1 << 9, 0), minor(0, 0, 1 << 9), minor(0, 1, 1)],
    "union": [union(-1, 0), union(0, -1), union(32, 0), union(0, 32)],
}


class Numbers(unittest.TestCase):
    def test_each_sort_counts_from_0(self):
        for name, call in GOOD.items():
            with self.subTest(name):
                self.assertEqual(answered(graph(9), call, call, call), [0, 1, 2, 3])

    def test_the_sorts_count_together(self):
        calls = [seats([1])] + list(GOOD.values()) + list(GOOD.values())
        self.assertEqual(answered(*calls), list(range(15)))

    def test_first_kinds_of_all_sorts_that_need_no_other(self):
        for name in ("graph", "table", "parts", "seats"):
            with self.subTest(name):
                self.assertEqual(answered(GOOD[name]), [0])

    def test_no_things_and_nine_things(self):
        points = list(range(0, 252, 14))
        self.assertEqual(answered(graph(0), graph(9, points)), [0, 1])
        self.assertEqual(answered(table(0, 7), table(9, 7, [3] * 144)), [0, 1])
        self.assertEqual(answered(parts([]), parts(list(range(7, 16)))), [0, 1])
        self.assertEqual(answered(seats([]), seats([4294967295] * 9)), [0, 1])

    def test_dual_and_minor_of_no_things_and_of_nine(self):
        for first in (graph(0), table(0, 2), parts([]), seats([])):
            self.assertEqual(answered(first, dual(0), minor(0, 0, 0)), [0, 1, 2])
            self.assertEqual(answered(first, minor(0, 1, 0), minor(0, 0, 1)), [0, WRONG, WRONG])
        for first in (graph(9), table(9, 2), parts([0] * 9), seats([1] * 9)):
            self.assertEqual(answered(first, dual(0), minor(0, 0b101010101, 0b010101010)), [0, 1, 2])

    def test_duals_and_minors_of_one_another(self):
        self.assertEqual(
            answered(graph(3), dual(0), minor(1, 1, 2), dual(2), minor(3, 4, 3), dual(4)),
            [0, 1, 2, 3, 4, 5],
        )


class Begin(unittest.TestCase):
    def test_answers_0(self):
        self.assertEqual(answered(BEGIN), [0])
        self.assertEqual(answered(BEGIN, BEGIN), [0, 0])

    def test_numbers_begin_again(self):
        self.assertEqual(
            answered(graph(1), graph(2), BEGIN, seats([1]), parts([1]), BEGIN, table(0, 2)),
            [0, 1, 0, 0, 1, 0, 0],
        )

    def test_kinds_before_it_are_gone(self):
        self.assertEqual(answered(graph(1), BEGIN, dual(0), minor(0)), [0, 0, WRONG, WRONG])
        self.assertEqual(answered(graph(1), graph(1), BEGIN, graph(1), dual(1)), [0, 1, 0, 0, WRONG])

    def test_a_number_after_it_is_of_the_new_kind(self):
        self.assertEqual(answered(graph(9), BEGIN, graph(1), minor(0, 2, 0)), [0, 0, 0, WRONG])
        self.assertEqual(answered(graph(1), BEGIN, graph(9), minor(0, 2, 0)), [0, 0, 0, 1])


class Sizes(unittest.TestCase):
    def test_n_below_0(self):
        for n in (-1, -2, -64, LOWEST):
            with self.subTest(n):
                self.assertEqual(answered(graph(n)), [WRONG])
                self.assertEqual(answered(table(n, 2)), [WRONG])

    def test_n_of_64_and_above(self):
        self.assertEqual(answered(graph(64), table(64, 2), parts([0] * 64), seats([0] * 64)), [0, 1, 2, 3])
        for n in (65, 66, HIGHEST):
            with self.subTest(n):
                self.assertEqual(answered(graph(n, []), table(n, 2, [])), [WRONG, WRONG])
        self.assertEqual(answered(parts([0] * 65), seats([0] * 65)), [WRONG, WRONG])

    def test_points_at_both_ends(self):
        self.assertEqual(answered(graph(2, [0, 255, 255, 255])), [0])


class Moduli(unittest.TestCase):
    def test_every_number_below_65536_once(self):
        sieve = [False, False] + [True] * 65534
        for k in range(2, 256):
            for multiple in range(k * k, 65536, k):
                sieve[multiple] = False
        for start in range(0, 65536, 32):
            calls = [table(0, p) for p in range(start, start + 32)]
            counted = 0
            for p, number in zip(range(start, start + 32), answered(*calls)):
                self.assertEqual(number, counted if sieve[p] else WRONG, p)
                counted += sieve[p]

    def test_the_greatest_prime_and_those_above(self):
        # 65537, 65539, 4294967291 are primes that are not below 65536.
        wrong = [65522, 65535, 65536, 65537, 65539, 65521 * 2, 4294967291, 4294967295]
        self.assertEqual(answered(table(0, GREATEST_PRIME)), [0])
        self.assertEqual(answered(table(1, GREATEST_PRIME)), [0])
        for p in wrong:
            with self.subTest(p):
                self.assertEqual(answered(table(0, p), table(1, p)), [WRONG, WRONG])

    def test_no_prime(self):
        for p in (0, 1, 4, 9, 15, 49, 255 * 255, 251 * 251, 561):
            with self.subTest(p):
                self.assertEqual(answered(table(0, p), table(2, p)), [WRONG, WRONG])

    def test_n_is_asked_of_a_good_prime_too(self):
        self.assertEqual(answered(table(-1, 4), table(-1, 5), table(0, 5)), [WRONG, WRONG, 0])


class Cells(unittest.TestCase):
    def test_all_p_less_1(self):
        for p in (2, 3, 251, GREATEST_PRIME):
            with self.subTest(p):
                self.assertEqual(answered(table(9, p, [p - 1] * 144)), [0])

    def test_p_and_above_at_every_place(self):
        for p in (2, 13, GREATEST_PRIME):
            for place in range(32):
                for wrong in (p, p + 1, 4294967295):
                    cells = [p - 1] * 32
                    cells[place] = wrong
                    self.assertEqual(answered(table(2, p, cells)), [WRONG], (p, place, wrong))

    def test_the_last_of_nine_rows(self):
        self.assertEqual(answered(table(9, 5, [4] * 143 + [5])), [WRONG])


class PartNumbers(unittest.TestCase):
    def test_15_and_16(self):
        for n in range(1, 10):
            for place in range(n):
                for last, number in ((15, 0), (16, WRONG), (17, WRONG), (255, WRONG)):
                    part = [0] * n
                    part[place] = last
                    self.assertEqual(answered(parts(part)), [number], part)

    def test_any_most(self):
        self.assertEqual(answered(parts([], [255] * 16), parts([15], [0] * 16)), [0, 1])


class MissingKinds(unittest.TestCase):
    def test_none_there(self):
        for m in (LOWEST, -1, 0, 1, 31, HIGHEST):
            with self.subTest(m):
                self.assertEqual(answered(dual(m), minor(m)), [WRONG, WRONG])

    def test_two_there(self):
        for m in (LOWEST, -3, -2, -1, 2, 3, 32, HIGHEST):
            with self.subTest(m):
                self.assertEqual(answered(graph(1), graph(1), dual(m), minor(m)), [0, 1, WRONG, WRONG])

    def test_last_there(self):
        self.assertEqual(answered(graph(1), graph(1), dual(1), minor(2)), [0, 1, 2, 3])


class MinorSets(unittest.TestCase):
    def test_all_sets_of_three_things(self):
        for without in range(16):
            for within in range(16):
                good = without < 8 and within < 8 and without & within == 0
                given = answered(graph(3), minor(0, without, within))
                self.assertEqual(given, [0, 1 if good else WRONG], (without, within))

    def test_bits_from_n_on(self):
        for n in range(10):
            for bit in range(64):
                number = 1 if bit < n else WRONG
                for sets in ((1 << bit, 0), (0, 1 << bit)):
                    self.assertEqual(answered(seats([1] * n), minor(0, *sets)), [0, number], (n, bit))
            self.assertEqual(answered(graph(n), minor(0, LAST_SET, 0), minor(0, 0, LAST_SET)), [0, WRONG, WRONG])

    def test_n_is_that_of_the_kind_it_is_made_from(self):
        calls = (graph(2), graph(5), dual(0), dual(1), minor(2, 1, 0), minor(3, 1, 0))
        for m, number in ((0, WRONG), (1, 6), (2, WRONG), (3, 6), (4, WRONG), (5, 6)):
            self.assertEqual(answered(*calls, minor(m, 16, 0)), [0, 1, 2, 3, 4, 5, number])
            self.assertEqual(answered(*calls, minor(m, 0, 16)), [0, 1, 2, 3, 4, 5, number])

    def test_what_was_taken_away_may_be_taken_again(self):
        self.assertEqual(answered(graph(2), minor(0, 1, 2), minor(1, 2, 1), minor(1, 1, 2)), [0, 1, 2, 3])


class Full(unittest.TestCase):
    def setUp(self):
        self.calls = [graph(9) for k in range(MOST_KINDS)]
        self.numbers = list(range(MOST_KINDS))

    def test_the_last_place_is_free_for_each(self):
        for name, call in GOOD.items():
            with self.subTest(name):
                self.assertEqual(answered(*self.calls[1:], call, call), self.numbers + [FULL])

    def test_each_is_refused(self):
        for name, call in GOOD.items():
            with self.subTest(name):
                self.assertEqual(answered(*self.calls, call), self.numbers + [FULL])

    def test_wrong_comes_first(self):
        for name, calls in BAD.items():
            for call in calls:
                with self.subTest(name, call=call):
                    self.assertEqual(answered(*self.calls, call), self.numbers + [WRONG])

    def test_full_of_each_sort(self):
        for name, call in GOOD.items():
            given = answered(graph(9), *[call] * 33)
            self.assertEqual(given, self.numbers + [FULL, FULL], name)

    def test_begin_makes_room(self):
        for name, call in GOOD.items():
            given = answered(*self.calls, call, BEGIN, graph(9), call)
            self.assertEqual(given, self.numbers + [FULL, 0, 0, 1], name)

    def test_full_again_after_begin(self):
        given = answered(*self.calls, BEGIN, *self.calls, graph(0))
        self.assertEqual(given, self.numbers + [0] + self.numbers + [FULL])


class Refusals(unittest.TestCase):
    def test_the_next_kind_has_the_number_of_the_refused(self):
        for name, calls in BAD.items():
            for call in calls:
                with self.subTest(name, call=call):
                    self.assertEqual(answered(graph(9), call, call, seats([])), [0, WRONG, WRONG, 1])

    def test_first_call_refused(self):
        for name, calls in BAD.items():
            for call in calls:
                with self.subTest(name, call=call):
                    self.assertEqual(answered(call, seats([]), dual(0)), [WRONG, 0, 1])

    def test_kinds_stay_as_they_were(self):
        calls = [graph(3)]
        for refused in BAD.values():
            calls.extend(refused)
        wrong = [WRONG] * (len(calls) - 1)
        given = answered(*calls, minor(0, 4, 3), minor(0, 8, 0), dual(1), dual(3))
        self.assertEqual(given, [0] + wrong + [1, WRONG, 2, WRONG])

    def test_full_leaves_kinds_as_they_were(self):
        kinds = [graph(2)] + [graph(0)] * 31
        given = answered(*kinds, graph(9), seats([1] * 9), minor(31, 1, 0), minor(0, 1, 2), dual(32))
        self.assertEqual(given, list(range(32)) + [FULL, FULL, WRONG, FULL, WRONG])


if __name__ == "__main__":
    unittest.main()
