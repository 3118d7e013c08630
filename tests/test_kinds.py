"""What is free in each kind, held against the document's words, set by set."""

import itertools
import random
import unittest

from standtogetherdesk.kinds import Dual, Graph, Minor, Parts, Seats, Table, members


def subsets(things):
    return [chosen for chosen in range(1 << things)]


def subsets_of(chosen):
    return [part for part in range(chosen + 1) if part & ~chosen == 0]


def size(chosen):
    return bin(chosen).count("1")


def has_closed_way(ends, chosen):
    """Some of the edges touch each point an even number of times."""
    for part in subsets_of(chosen)[1:]:
        touched = [ends[2 * e + side] for e in members(part) for side in (0, 1)]
        if all(touched.count(point) % 2 == 0 for point in touched):
            return True
    return False


def has_sum_of_others(rows, p, chosen):
    """Some multiples of the rows, not all 0, add up to 0."""
    things = members(chosen)
    for factors in itertools.product(range(p), repeat=len(things)):
        if any(factors):
            sums = [sum(f * rows[e][column] for f, e in zip(factors, things)) for column in range(16)]
            if all(total % p == 0 for total in sums):
                return True
    return False


def stays_within_most(part, most, chosen):
    return all([part[e] for e in members(chosen)].count(i) <= most[i] for i in range(16))


def all_can_sit(seats, chosen):
    wishes = [members(seats[e]) for e in members(chosen)]
    return any(len(set(taken)) == len(taken) for taken in itertools.product(*wishes))


def greatest(free, chosen):
    return max(size(part) for part in subsets_of(chosen) if part in free)


def free_in_dual(free, things):
    whole = (1 << things) - 1
    bases = [base for base in free if size(base) == greatest(free, whole)]
    return [chosen for chosen in subsets(things) if any(base & chosen == 0 for base in bases)]


def free_in_minor(free, things, without, within):
    most = greatest(free, within)
    base = [part for part in subsets_of(within) if part in free and size(part) == most][0]
    left = [chosen for chosen in subsets(things) if chosen & (without | within) == 0]
    return [chosen for chosen in left if chosen | base in free]


def some_sums(chance, p, n):
    """Rows of which several are sums of multiples of a few, some of them 0."""
    few = [[chance.randrange(p) for column in range(16)] for k in range(chance.randrange(1, 4))]
    rows = []
    for e in range(n):
        factors = [chance.randrange(p) for base in few]
        rows.append([sum(f * base[c] for f, base in zip(factors, few)) % p for c in range(16)])
    return rows


class Case(unittest.TestCase):
    def hold(self, kind, free, note):
        """The kind's ranks are those of the sets that are free."""
        for chosen in subsets(kind.things):
            self.assertEqual(kind.rank(chosen), greatest(free, chosen), (note, chosen))


def graph_and_free(chance, n):
    ends = [chance.choice([0, 1, 2, 255]) for k in range(2 * n)]
    return Graph(n, ends), [s for s in subsets(n) if not has_closed_way(ends, s)], ends


def table_and_free(chance, n):
    p = chance.choice([2, 3, 5]) if n < 5 else 2
    rows = some_sums(chance, p, n)
    cells = [cell for row in rows for cell in row]
    return Table(n, p, cells), [s for s in subsets(n) if not has_sum_of_others(rows, p, s)], (p, rows)


def parts_and_free(chance, n):
    part = [chance.choice([0, 1, 15]) for e in range(n)]
    most = [chance.randrange(3) for i in range(16)]
    return Parts(part, most), [s for s in subsets(n) if stays_within_most(part, most, s)], (part, most)


def seats_and_free(chance, n):
    seats = [chance.choice([0, 1, 2, 3, 6, 1 << 31, 5 + (1 << 31)]) for e in range(n)]
    return Seats(seats), [s for s in subsets(n) if all_can_sit(seats, s)], seats


MAKERS = (graph_and_free, table_and_free, parts_and_free, seats_and_free)


class OwnWords(Case):
    def test_kinds_by_chance(self):
        for make in MAKERS:
            for seed in range(60):
                kind, free, note = make(random.Random(seed), seed % 6)
                self.assertEqual(kind.things, seed % 6)
                self.hold(kind, free, (make, note))

    def test_nine_things(self):
        ends = [0, 0, 1, 2, 2, 1, 2, 3, 3, 1, 3, 255, 255, 254, 254, 3, 1, 254]
        graph = Graph(9, ends)
        self.assertEqual(graph.rank(511), 4)
        self.assertEqual(graph.rank(0b000000001), 0)
        self.assertEqual(graph.rank(0b000000110), 1)
        self.assertEqual(graph.rank(0b011100000), 2)
        self.assertEqual(Seats([7] * 9).rank(511), 3)
        self.assertEqual(Parts([0] * 8 + [15], [4] + [0] * 14 + [255]).rank(511), 5)

    def test_greatest_prime(self):
        p = 65521
        one = [p - 1 - k for k in range(16)]
        other = [k * k for k in range(16)]
        both = [(7 * x + 65000 * y) % p for x, y in zip(one, other)]
        table = Table(4, p, one + other + both + [0] * 16)
        self.assertEqual([table.rank(s) for s in subsets(4)], [0, 1, 1, 2, 1, 2, 2, 2] * 2)

    def test_sitters_move(self):
        seats = Seats([0b1111, 0b0111, 0b0011, 0b0001])
        self.assertEqual(seats.rank(0b1111), 4)
        many = Seats([(1 << 32) - 1 >> e for e in range(32)])
        self.assertEqual(many.rank((1 << 32) - 1), 32)


class MadeFromOthers(Case):
    def test_duals_and_minors_by_chance(self):
        for make in MAKERS:
            for seed in range(40):
                chance = random.Random(seed)
                n = seed % 5
                kind, free, note = make(chance, n)
                for step in range(4):
                    if chance.randrange(2) == 0:
                        kind = Dual(kind)
                        free = free_in_dual(free, n)
                    else:
                        without = chance.randrange(1 << n) & chance.randrange(1 << n)
                        within = chance.randrange(1 << n) & ~without
                        kind = Minor(kind, without, within)
                        free = free_in_minor(free, n, without, within)
                    self.assertEqual(kind.things, n)
                    self.hold(kind, free, (make, note, seed, step))

    def test_a_long_way_of_duals(self):
        kind = Graph(9, [0, 1, 1, 2, 2, 0, 2, 3, 3, 3, 4, 5, 5, 4, 5, 6, 6, 4])
        ranks = [kind.rank(chosen) for chosen in subsets(9)]
        for k in range(30):
            kind = Dual(kind)
        self.assertEqual([kind.rank(chosen) for chosen in subsets(9)], ranks)


if __name__ == "__main__":
    unittest.main()
