"""The ranks of each kind, held against the document's words, set by set."""

import random
import unittest

from standtogetherdesk.bits import all_things, members, size
from standtogetherdesk.kinds import Dual, Graph, Minor, Parts, Seats, Table, Union
from standtogetherdesk.meeting import greatest_common
from tests import words


def subsets(things):
    return [chosen for chosen in range(1 << things)]


def some_sums(chance, p, n):
    """Rows of which several are sums of multiples of a few, some of them 0."""
    few = [[chance.randrange(p) for column in range(16)] for k in range(chance.randrange(1, 4))]
    cells = []
    for e in range(n):
        factors = [chance.randrange(p) for base in few]
        cells.extend(sum(f * base[c] for f, base in zip(factors, few)) % p for c in range(16))
    return cells


class Case(unittest.TestCase):
    def hold(self, kind, free, note):
        """The kind's ranks are those of the sets that are free."""
        told = words.Words(kind.things, free)
        for chosen in subsets(kind.things):
            self.assertEqual(kind.rank(chosen), told.rank(chosen), (note, chosen))
            self.assertIs(kind.is_free(chosen), chosen in told.known, (note, chosen))


def graph_and_free(chance, n):
    ends = [chance.choice([0, 1, 2, 255]) for k in range(2 * n)]
    return Graph(n, ends), words.free_in_graph(n, ends), ends


def table_and_free(chance, n):
    p = chance.choice([2, 3, 5]) if n < 5 else 2
    cells = some_sums(chance, p, n)
    return Table(n, p, cells), words.free_in_table(n, p, cells), (p, cells)


def parts_and_free(chance, n):
    part = [chance.choice([0, 1, 15]) for e in range(n)]
    most = [chance.randrange(3) for i in range(16)]
    return Parts(part, most), words.free_in_parts(part, most), (part, most)


def seats_and_free(chance, n):
    seats = [chance.choice([0, 1, 2, 3, 6, 1 << 31, 5 + (1 << 31)]) for e in range(n)]
    return Seats(seats), words.free_in_seats(seats), seats


MAKERS = (graph_and_free, table_and_free, parts_and_free, seats_and_free)


def made_from(chance, kind, free):
    """A dual or a minor of a kind, with its free sets."""
    n = kind.things
    if chance.randrange(2) == 0:
        return Dual(kind), words.free_in_dual(free, n)
    without = chance.randrange(1 << n) & chance.randrange(1 << n)
    within = chance.randrange(1 << n) & ~without
    return Minor(kind, without, within), words.free_in_minor(free, n, without, within)


class Bits(unittest.TestCase):
    def test_members_and_size(self):
        self.assertEqual(members(0), [])
        self.assertEqual(members(0b1011), [0, 1, 3])
        self.assertEqual(members((1 << 64) - 1), list(range(64)))
        self.assertEqual([size(0), size(0b1011), size(1 << 63)], [0, 3, 1])
        self.assertEqual([all_things(0), all_things(9), all_things(64)], [0, 511, (1 << 64) - 1])


class OwnWords(Case):
    def test_kinds_by_chance(self):
        for make in MAKERS:
            for seed in range(60):
                kind, free, note = make(random.Random(seed), seed % 6)
                self.assertEqual(kind.things, seed % 6)
                self.hold(kind, free, (make, note))

    def test_nine_things(self):
        ends = [0, 0, 1, 2, 2, 1, 2, 3, 3, 1, 3, 255, 255, 254, 254, 3, 1, 254]
        graph = Graph(9, ends)
        self.assertEqual(graph.rank(511), 4)
        self.assertEqual(graph.rank(0b000000001), 0)
        self.assertEqual(graph.rank(0b000000110), 1)
        self.assertEqual(graph.rank(0b011100000), 2)
        self.assertEqual(Seats([7] * 9).rank(511), 3)
        self.assertEqual(Parts([0] * 8 + [15], [4] + [0] * 14 + [255]).rank(511), 5)

    def test_greatest_prime(self):
        p = 65521
        one = [p - 1 - k for k in range(16)]
        other = [k * k for k in range(16)]
        both = [(7 * x + 65000 * y) % p for x, y in zip(one, other)]
        table = Table(4, p, one + other + both + [0] * 16)
        self.assertEqual([table.rank(s) for s in subsets(4)], [0, 1, 1, 2, 1, 2, 2, 2] * 2)

    def test_sitters_move(self):
        seats = Seats([0b1111, 0b0111, 0b0011, 0b0001])
        self.assertEqual(seats.rank(0b1111), 4)
        many = Seats([(1 << 32) - 1 >> e for e in range(32)])
        self.assertEqual(many.rank((1 << 32) - 1), 32)


class MadeFromOthers(Case):
    def test_duals_and_minors_by_chance(self):
        for make in MAKERS:
            for seed in range(40):
                chance = random.Random(seed)
                kind, free, note = make(chance, seed % 5)
                for step in range(4):
                    kind, free = made_from(chance, kind, free)
                    self.assertEqual(kind.things, seed % 5)
                    self.hold(kind, free, (make, note, seed, step))

    def test_a_long_way_of_duals(self):
        kind = Graph(9, [0, 1, 1, 2, 2, 0, 2, 3, 3, 3, 4, 5, 5, 4, 5, 6, 6, 4])
        ranks = [kind.rank(chosen) for chosen in subsets(9)]
        for k in range(30):
            kind = Dual(kind)
        self.assertEqual([kind.rank(chosen) for chosen in subsets(9)], ranks)


class Unions(Case):
    def test_all_pairs_of_sorts(self):
        for make in MAKERS:
            for other_make in MAKERS:
                for seed in range(24):
                    chance = random.Random(seed)
                    n = seed % 6
                    one, one_free, note = make(chance, n)
                    other, other_free, other_note = other_make(chance, n)
                    free = words.free_in_union(one_free, other_free)
                    self.hold(Union(one, other), free, (note, other_note))

    def test_of_and_into_duals_and_minors(self):
        for make in MAKERS:
            for seed in range(40):
                chance = random.Random(seed)
                n = seed % 5
                one, one_free, note = make(chance, n)
                other, other_free, other_note = chance.choice(MAKERS)(chance, n)
                one, one_free = made_from(chance, one, one_free)
                other, other_free = made_from(chance, other, other_free)
                kind, free = Union(one, other), words.free_in_union(one_free, other_free)
                for step in range(4):
                    self.hold(kind, free, (note, other_note, seed, step))
                    kind, free = made_from(chance, kind, free)

    def test_nine_things(self):
        for seed in range(12):
            chance = random.Random(seed)
            one, one_free, note = MAKERS[seed % 4](chance, 9)
            other, other_free, other_note = MAKERS[seed // 4](chance, 9)
            self.hold(Union(one, other), words.free_in_union(one_free, other_free), (note, other_note))

    def test_which_are_made_from_a_union(self):
        plain = Parts([0, 0], [1] * 16)
        put = Union(plain, plain)
        for kind in (plain, Dual(plain), Minor(plain, 1, 0), Minor(Dual(plain), 0, 1)):
            self.assertIs(kind.from_union, False)
        for kind in (put, Dual(put), Minor(put, 1, 0), Dual(Minor(Dual(put), 0, 1))):
            self.assertIs(kind.from_union, True)

    def test_many_things(self):
        # The most of each part add up: what parts allow twice is easily told.
        part = [e % 5 for e in range(64)]
        one = Parts(part, [1, 4, 7, 3, 0] + [0] * 11)
        other = Parts(part, [2, 4, 0, 20, 0] + [0] * 11)
        both = Parts(part, [3, 8, 7, 23, 0] + [0] * 11)
        whole = all_things(64)
        for chosen in (0, whole, whole >> 20, 0x0123456789ABCDEF):
            self.assertEqual(Union(one, other).rank(chosen), both.rank(chosen))


class Meeting(Case):
    def test_all_pairs_of_sorts(self):
        for make in MAKERS:
            for other_make in MAKERS:
                for seed in range(24):
                    chance = random.Random(seed)
                    n = seed % 7
                    one, one_free, note = make(chance, n)
                    other, other_free, other_note = other_make(chance, n)
                    chosen = chance.randrange(1 << n)
                    self.meet(one, one_free, other, other_free, chosen, (note, other_note))
                    self.meet(one, one_free, other, other_free, (1 << n) - 1, (note, other_note))

    def meet(self, one, one_free, other, other_free, chosen, note):
        both = [part for part in one_free if part in other_free and part & ~chosen == 0]
        found = greatest_common(one, other, chosen)
        self.assertIn(found, both, note)
        self.assertEqual(size(found), max(size(part) for part in both), note)

    def test_a_long_way(self):
        # Each thing taken early must move on to make room for the last.
        rows = Parts([0, 1, 1, 2, 2, 3, 3, 4, 4], [1] * 16)
        columns = Parts([1, 1, 2, 2, 3, 3, 4, 4, 5], [1] * 16)
        self.assertEqual(size(greatest_common(rows, columns, 511)), 5)
        self.assertEqual(size(greatest_common(rows, columns, 255)), 4)


if __name__ == "__main__":
    unittest.main()
