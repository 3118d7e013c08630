"""rank, closure, circuit, best, split and common: answers and refusals."""

import unittest

from tests.helper import (
    BEGIN, FULL, HIGHEST, LAST_SET, LOWEST, MOST_KINDS, UNFIT, WRONG,
    asked, answered, best, circuit, closure, common, dual, graph, last, minor, most_of, parts, rank, rows, seats,
    split, table, union,
)

# Two edges between points 0 and 1, a third on to 2, and one from a point to itself.
EDGES = graph(4, [0, 1, 1, 0, 1, 2, 3, 3])
# A row, twice it, another row, and a row of 0s.
ROWS = table(4, 7, rows([1, 2], [2, 4], [0, 1], []))
# One of the first part, two of the last, none of part 3.
PARTED = parts([0, 0, 15, 15, 15, 3], most_of(p0=1, p15=2))
# Two things for one seat, one that has a choice, one with no seat.
SEATED = seats([1, 1, 1 | 1 << 31, 0])


class Rank(unittest.TestCase):
    def ranks(self, *calls):
        """The ranks of all sets of the last kind; it has 4 things."""
        m = len(calls) - 1
        return answered(*calls, *[rank(m, chosen) for chosen in range(16)])[m + 1:]

    def test_graph(self):
        self.assertEqual(self.ranks(EDGES), [0, 1, 1, 1, 1, 2, 2, 2] * 2)

    def test_table(self):
        self.assertEqual(self.ranks(ROWS), [0, 1, 1, 1, 1, 2, 2, 2] * 2)

    def test_seats(self):
        self.assertEqual(self.ranks(SEATED), [0, 1, 1, 1, 1, 2, 2, 2] * 2)

    def test_parts(self):
        sets = [0, 63, 1, 3, 0b100000, 0b011100, 0b001100, 0b111111, 0b011101]
        given = answered(PARTED, *[rank(0, chosen) for chosen in sets])
        self.assertEqual(given[1:], [0, 3, 1, 1, 0, 2, 2, 3, 3])

    def test_dual_and_minor(self):
        self.assertEqual(self.ranks(EDGES, dual(0)), [0, 1, 1, 1, 0, 1, 1, 1, 1, 2, 2, 2, 1, 2, 2, 2])
        self.assertEqual(self.ranks(EDGES, minor(0, 4, 0)), [0, 1, 1, 1] * 4)
        self.assertEqual(self.ranks(EDGES, minor(0, 0, 1)), [0, 0, 0, 0, 1, 1, 1, 1] * 2)
        self.assertEqual(self.ranks(EDGES, minor(0, 15, 0)), [0] * 16)
        self.assertEqual(self.ranks(EDGES, minor(0, 0, 15)), [0] * 16)

    def test_union(self):
        self.assertEqual(self.ranks(EDGES, union(0, 0)), [0, 1, 1, 2, 1, 2, 2, 3] * 2)
        self.assertEqual(self.ranks(EDGES, minor(0, 7, 0), union(0, 1)), [0, 1, 1, 1, 1, 2, 2, 2] * 2)

    def test_what_is_never_free_in_both_parts(self):
        for kind in (EDGES, ROWS, SEATED):
            self.assertEqual(last(kind, union(0, 0), rank(1, 8)), [0])

    def test_the_empty_set_and_no_things(self):
        for kind in (EDGES, ROWS, SEATED, PARTED, graph(0), table(0, 2), parts([]), seats([])):
            calls = [kind, dual(0), minor(0), union(0, 0)]
            self.assertEqual(answered(*calls, *[rank(m, 0) for m in range(4)])[4:], [0] * 4)

    def test_nine_things(self):
        calls = [seats([7] * 9), parts(list(range(9))), union(0, 0), dual(0), dual(1), table(9, 2, [1] * 144)]
        given = answered(*calls, *[rank(m, 511) for m in range(6)])[6:]
        self.assertEqual(given, [3, 9, 6, 6, 0, 1])


class Closure(unittest.TestCase):
    def test_graph_table_seats(self):
        for kind in (EDGES, ROWS):
            self.assertEqual(last(kind, closure(0, 0)), [1, 8])
            self.assertEqual(last(kind, closure(0, 1)), [3, 11])
            self.assertEqual(last(kind, closure(0, 4)), [2, 12])
            self.assertEqual(last(kind, closure(0, 6)), [4, 15])
            self.assertEqual(last(kind, closure(0, 15)), [4, 15])
        self.assertEqual(last(SEATED, closure(0, 2)), [3, 11])
        self.assertEqual(last(SEATED, closure(0, 0)), [1, 8])

    def test_parts(self):
        self.assertEqual(last(PARTED, closure(0, 0)), [1, 0b100000])
        self.assertEqual(last(PARTED, closure(0, 0b001100)), [4, 0b111100])
        self.assertEqual(last(PARTED, closure(0, 0b000010)), [3, 0b100011])

    def test_made_from_others(self):
        self.assertEqual(last(EDGES, dual(0), closure(1, 0)), [1, 4])
        self.assertEqual(last(EDGES, dual(0), closure(1, 1)), [3, 7])
        self.assertEqual(last(EDGES, minor(0, 4, 0), closure(1, 0)), [2, 12])
        self.assertEqual(last(EDGES, minor(0, 0, 1), closure(1, 0)), [3, 11])
        self.assertEqual(last(EDGES, union(0, 0), closure(1, 0)), [1, 8])
        self.assertEqual(last(EDGES, union(0, 0), closure(1, 3)), [3, 11])

    def test_no_things(self):
        self.assertEqual(last(graph(0), union(0, 0), closure(1, 0)), [0, 0])


class WrongSets(unittest.TestCase):
    """What rank, closure, circuit and split refuse alike."""

    def test_no_such_kind(self):
        for m in (LOWEST, -2, -1, 2, 3, 32, HIGHEST):
            given = answered(EDGES, union(0, 0), rank(m, 0), closure(m, 0), circuit(m, 0, 3), split(m, 0))
            self.assertEqual(given, [0, 1] + [WRONG] * 4, m)
        self.assertEqual(answered(rank(0, 0), closure(0, 0), circuit(0, 0, 0), split(0, 0)), [WRONG] * 4)

    def test_gone_by_begin(self):
        calls = (rank(0, 0), closure(0, 0), circuit(0, 0, 3), split(0, 0), best(0, [0] * 4), common(0, 0))
        self.assertEqual(answered(EDGES, BEGIN, *calls), [0, 0] + [WRONG] * 6)

    def test_bits_from_n_on(self):
        for n in (0, 1, 4, 9):
            for far in [1 << bit for bit in range(n, 64)] + [1 << n | 1, LAST_SET, LAST_SET >> 1]:
                calls = [graph(n), union(0, 0), dual(1), minor(0)]
                asking = [ask(m, far) for m in range(4) for ask in (rank, closure, split)]
                asking += [circuit(m, far, 0) for m in range(4)]
                self.assertEqual(answered(*calls, *asking), [0, 1, 2, 3] + [WRONG] * 16, (n, far))

    def test_all_things_are_no_bits_too_many(self):
        for n in (0, 1, 4, 9):
            given = asked(graph(n), union(0, 0), rank(0, (1 << n) - 1), closure(0, (1 << n) - 1))
            self.assertEqual(given[2:], [[0], [n, (1 << n) - 1]])


class Circuit(unittest.TestCase):
    def test_graph_table_seats(self):
        for kind in (EDGES, ROWS):
            self.assertEqual(last(kind, circuit(0, 5, 1)), [2, 3])
            self.assertEqual(last(kind, circuit(0, 1, 1 + 2)), [1, 8])
        self.assertEqual(last(SEATED, circuit(0, 4 + 1, 1)), [2, 3])
        self.assertEqual(last(seats([3, 3, 3, 4]), circuit(0, 0b1011, 2)), [3, 7])

    def test_a_round_way_of_many(self):
        ends = [0, 1, 1, 2, 2, 3, 3, 4, 4, 5, 5, 6, 6, 7, 7, 0, 2, 5]
        self.assertEqual(last(graph(9, ends), circuit(0, 0b001111111, 7)), [8, 0b011111111])
        self.assertEqual(last(graph(9, ends), circuit(0, 0b001111111, 8)), [4, 0b100011100])

    def test_table_of_sums(self):
        kind = table(5, 65521, rows([1], [0, 1], [0, 0, 1], [65520, 0, 3], [5, 6, 7]))
        self.assertEqual(last(kind, circuit(0, 7, 3)), [3, 0b01101])
        self.assertEqual(last(kind, circuit(0, 7, 4)), [4, 0b10111])

    def test_parts(self):
        self.assertEqual(last(PARTED, circuit(0, 0b001101, 4)), [3, 0b011100])
        self.assertEqual(last(PARTED, circuit(0, 0b001101, 1)), [2, 0b000011])

    def test_one_thing_alone(self):
        for kind, e in ((EDGES, 3), (ROWS, 3), (SEATED, 3), (PARTED, 5)):
            self.assertEqual(last(kind, circuit(0, 0, e)), [1, 1 << e])
            self.assertEqual(last(kind, circuit(0, 1, e)), [1, 1 << e])
            self.assertEqual(last(kind, union(0, 0), circuit(1, 1, e)), [1, 1 << e])
        self.assertEqual(last(EDGES, minor(0, 1, 4), circuit(1, 2, 0)), [1, 1])
        self.assertEqual(last(EDGES, minor(0, 1, 4), circuit(1, 2, 2)), [1, 4])
        self.assertEqual(last(EDGES, dual(0), circuit(1, 8, 2)), [1, 4])

    def test_dual_minor_union(self):
        self.assertEqual(last(EDGES, dual(0), circuit(1, 9, 1)), [2, 3])
        self.assertEqual(last(EDGES, minor(0, 0, 4), circuit(1, 1, 1)), [2, 3])
        fours = graph(5, [0, 1] * 4 + [1, 2])
        self.assertEqual(last(fours, union(0, 0), circuit(1, 0b10011, 3)), [3, 0b01011])
        self.assertEqual(last(fours, union(0, 0), dual(1), circuit(2, 3, 2)), [3, 7])
        self.assertEqual(last(fours, union(0, 0), minor(1, 0, 1), circuit(2, 2, 2)), [2, 6])

    def test_e_that_is_no_thing(self):
        for e in (LOWEST, -1, -4, 4, 5, 63, 64, HIGHEST):
            # Of a set that isn't free too: -1 comes before -4.
            for chosen in (0, 1, 3, 15):
                self.assertEqual(last(EDGES, circuit(0, chosen, e)), [WRONG], (e, chosen))
        self.assertEqual(last(graph(0), circuit(0, 0, 0)), [WRONG])
        self.assertEqual(last(graph(9), circuit(0, 0, 8)), [1, 256])
        self.assertEqual(last(graph(9), circuit(0, 0, 9)), [WRONG])

    def test_set_that_is_not_free(self):
        for e in range(4):
            self.assertEqual(last(EDGES, circuit(0, 3, e)), [UNFIT])
            self.assertEqual(last(EDGES, circuit(0, 8, e)), [UNFIT])
            self.assertEqual(last(EDGES, circuit(0, 15, e)), [UNFIT])

    def test_e_in_the_set(self):
        self.assertEqual(last(EDGES, circuit(0, 1, 0)), [UNFIT])
        self.assertEqual(last(EDGES, circuit(0, 5, 2)), [UNFIT])

    def test_free_together(self):
        self.assertEqual(last(EDGES, circuit(0, 1, 2)), [UNFIT])
        self.assertEqual(last(EDGES, circuit(0, 0, 0)), [UNFIT])
        self.assertEqual(last(EDGES, union(0, 0), circuit(1, 1, 1)), [UNFIT])

    def test_wrong_comes_first(self):
        self.assertEqual(last(EDGES, circuit(1, 3, 0)), [WRONG])
        self.assertEqual(last(EDGES, circuit(0, 16 + 3, 0)), [WRONG])
        self.assertEqual(last(EDGES, circuit(0, 16 + 1, 0)), [WRONG])


class Best(unittest.TestCase):
    def test_heaviest_first(self):
        self.assertEqual(last(EDGES, best(0, [1, 2, 3, 4])), [2, 6])
        self.assertEqual(last(EDGES, best(0, [2, 1, 3, 4])), [2, 5])
        self.assertEqual(last(ROWS, best(0, [5, 9, -1, 100])), [2, 6])
        self.assertEqual(last(PARTED, best(0, [1, 2, 3, 5, 4, 99])), [3, 0b011010])
        self.assertEqual(last(SEATED, best(0, [1, 2, 3, 4])), [2, 6])

    def test_equal_ones_the_lower_number_first(self):
        for weight in (0, 1, -1, LOWEST, HIGHEST):
            self.assertEqual(last(EDGES, best(0, [weight] * 4)), [2, 5])
            self.assertEqual(last(seats([3] * 9), best(0, [weight] * 9)), [2, 3])
            self.assertEqual(last(seats([3] * 9), best(0, [LOWEST] + [weight] * 8)), [2, 6 if weight > LOWEST else 3])

    def test_negative_ones_are_taken_too(self):
        self.assertEqual(last(EDGES, best(0, [-1, -2, -3, 5])), [2, 5])
        self.assertEqual(last(EDGES, best(0, [-2, -1, -3, 5])), [2, 6])
        self.assertEqual(last(parts([0, 0, 1]), best(0, [-5, 0, -7])), [2, 6])

    def test_ends_of_the_range(self):
        three = seats([1, 1, 1])
        self.assertEqual(last(three, best(0, [LOWEST, HIGHEST, 0])), [1, 2])
        self.assertEqual(last(three, best(0, [LOWEST, LOWEST, LOWEST + 1])), [1, 4])
        self.assertEqual(last(three, best(0, [HIGHEST - 1, HIGHEST - 1, HIGHEST])), [1, 4])
        self.assertEqual(last(three, best(0, [LOWEST] * 3)), [1, 1])

    def test_dual_minor_union(self):
        self.assertEqual(last(EDGES, dual(0), best(1, [1, 2, 3, 4])), [2, 0b1010])
        self.assertEqual(last(EDGES, minor(0, 2, 4), best(1, [1, 2, 3, 4])), [1, 1])
        self.assertEqual(last(EDGES, union(0, 0), best(1, [1, 2, 3, 4])), [3, 7])

    def test_no_such_kind(self):
        for m in (LOWEST, -1, 1, 32, HIGHEST):
            self.assertEqual(last(EDGES, best(m, [0] * 4)), [WRONG], m)
            self.assertEqual(last(EDGES, best(m, [])), [WRONG], m)

    def test_not_as_many_weights_as_things(self):
        for n in range(10):
            calls = [graph(n, [k for e in range(n) for k in (e, e + 1)]), union(0, 0), dual(1), minor(0)]
            for count in list(range(12)) + [63, 64]:
                given = asked(*calls, *[best(m, [1] * count) for m in range(4)])[4:]
                whole = (1 << n) - 1
                right = [[n, whole], [n, whole], [0, 0], [n, whole]]
                self.assertEqual(given, right if n == count else [[WRONG]] * 4, (n, count))

    def test_no_things_and_no_weights(self):
        for kind in (graph(0), table(0, 3), parts([]), seats([])):
            self.assertEqual(asked(kind, best(0, []), best(0, [1])), [[0], [0, 0], [WRONG]])

    def test_what_lies_behind_is_read(self):
        weights = [7] * 64
        self.assertEqual(asked(EDGES, best(0, weights), rank(0, 15), best(1, [0, 0]), rank(0, 1)),
                         [[0], [WRONG], [2], [WRONG], [1]])


class Split(unittest.TestCase):
    def test_all_sets_of_a_union(self):
        # Two of the first three can stand together, and thing 3 never can.
        calls = [graph(4, [0, 1, 0, 1, 1, 0, 2, 2]), union(0, 0)]
        given = answered(*calls, *[split(1, chosen) for chosen in range(16)])[2:]
        self.assertEqual(given, [0] * 7 + [UNFIT] * 9)

    def test_the_empty_set_and_no_things(self):
        self.assertEqual(last(EDGES, union(0, 0), split(1, 0)), [0])
        self.assertEqual(last(graph(9), union(0, 0), split(1, 0)), [0])
        self.assertEqual(last(seats([]), union(0, 0), split(1, 0)), [0])

    def test_no_union(self):
        calls = [EDGES, union(0, 0), dual(0), minor(0), dual(1), minor(1), dual(4)]
        for m in (0, 2, 3, 4, 5, 6):
            for chosen in (0, 1, 15):
                self.assertEqual(last(*calls, split(m, chosen)), [UNFIT], (m, chosen))

    def test_wrong_comes_first(self):
        calls = [EDGES, union(0, 0), dual(1)]
        for m in range(3):
            self.assertEqual(last(*calls, split(m, 16)), [WRONG])
            self.assertEqual(last(*calls, split(m, 1 << 63)), [WRONG])
        self.assertEqual(last(*calls, split(3, 16)), [WRONG])
        self.assertEqual(last(*calls, split(-1, 0)), [WRONG])


class Common(unittest.TestCase):
    def test_how_many(self):
        calls = [EDGES, ROWS, SEATED, parts([0, 1, 0, 0]), parts([0, 0, 0, 1]), dual(0), minor(0, 4, 0)]
        for a, b, most in ((0, 1, 2), (0, 2, 2), (0, 3, 2), (0, 4, 1), (3, 4, 2), (0, 5, 1), (0, 6, 1), (5, 6, 1)):
            self.assertEqual(last(*calls, common(a, b)), [most], (a, b))
            self.assertEqual(last(*calls, common(b, a)), [most], (b, a))

    def test_with_itself_is_its_rank(self):
        for kind, most in ((EDGES, 2), (ROWS, 2), (SEATED, 2), (PARTED, 3), (graph(0), 0), (graph(9), 0)):
            self.assertEqual(last(kind, common(0, 0)), [most])

    def test_first_choices_must_be_given_up(self):
        rows_of_nine = parts([0, 1, 1, 2, 2, 3, 3, 4, 4])
        columns_of_nine = parts([1, 1, 2, 2, 3, 3, 4, 4, 5])
        self.assertEqual(last(rows_of_nine, columns_of_nine, common(0, 1)), [5])
        crossed = [parts([0, 0, 1, 2, 2]), seats([1, 2, 1, 2, 4])]
        self.assertEqual(last(*crossed, common(0, 1)), [3])
        self.assertEqual(last(*crossed, common(1, 0)), [3])

    def test_missing(self):
        for m in (LOWEST, -2, -1, 2, 32, HIGHEST):
            given = answered(EDGES, EDGES, common(m, 0), common(0, m), common(m, m))
            self.assertEqual(given, [0, 1, WRONG, WRONG, WRONG], m)
        self.assertEqual(answered(common(0, 0)), [WRONG])

    def test_not_equally_many(self):
        for n in range(10):
            for m in range(10):
                given = answered(graph(n), seats([1] * m), common(0, 1), common(1, 0))[2:]
                self.assertEqual(given, [0, 0] if n == m else [WRONG, WRONG])

    def test_union_or_made_from_one(self):
        calls = [EDGES, union(0, 0), dual(1), minor(1, 1, 2), minor(2, 0, 1), dual(4)]
        for m in range(1, 6):
            given = answered(*calls, common(m, 0), common(0, m), common(m, m), common(1, m), common(0, 0))
            self.assertEqual(given[6:], [UNFIT] * 4 + [2], m)

    def test_wrong_comes_first(self):
        calls = [EDGES, union(0, 0), dual(1), graph(3)]
        for m in (1, 2):
            given = answered(*calls, common(m, -1), common(4, m), common(m, 3), common(3, m))
            self.assertEqual(given[4:], [WRONG] * 4)

    def test_where_there_are_32_kinds(self):
        calls = [EDGES, ROWS, union(0, 1), graph(3)] + [graph(0)] * 28
        given = answered(*calls, common(0, 1), common(0, 2), common(0, 3), common(31, 31), graph(0), common(0, 1))
        self.assertEqual(given[32:], [2, UNFIT, WRONG, 0, FULL, 2])


class NothingChanges(unittest.TestCase):
    calls = [EDGES, ROWS, union(0, 1), dual(2)]
    questions = [rank(2, 7), closure(3, 1), circuit(0, 1, 1), best(2, [4, 3, 2, 1]), split(2, 5), common(0, 1)]
    refused = [
        rank(9, 0), rank(0, 16), closure(-1, 0), closure(2, 16), circuit(0, 3, 2), circuit(0, 0, 4), circuit(0, 1, 0),
        best(4, [0] * 4), best(0, [0] * 5), split(0, 0), split(2, 15), split(2, 16), common(0, 2), common(0, 4),
        union(0, 2), union(3, 0), union(0, 4), union(-1, 0),
    ]

    def test_the_next_kind_has_the_next_number(self):
        for call in self.questions + self.refused:
            given = asked(*self.calls, call, call, seats([]), call, dual(4))
            self.assertEqual(given[:4] + [given[6], given[8]], [[0], [1], [2], [3], [4], [5]], call)

    def test_the_same_question_has_the_same_answer(self):
        first = [last(*self.calls, call) for call in self.questions]
        self.assertEqual(first, [[3], [3, 7], [2, 3], [3, 7], [0], [2]])
        for call in self.refused:
            given = asked(*self.calls, *self.questions, call, *self.questions)[4:]
            self.assertEqual(given, first + [last(*self.calls, call)] + first, call)
            self.assertLess(given[6][0], 0, call)

    def test_where_full(self):
        calls = self.calls + [graph(0)] * 28
        given = asked(*calls, *self.questions, union(0, 1), dual(0), *self.questions)[MOST_KINDS:]
        self.assertEqual(given[:6], given[8:])
        self.assertEqual(given[6:8], [[FULL], [FULL]])


if __name__ == "__main__":
    unittest.main()
