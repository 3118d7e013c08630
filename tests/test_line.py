"""Whole lines of calls, held against the document's words."""

import random
import unittest

from tests.helper import (
    BEGIN, FULL, HIGHEST, LOWEST,
    asked, best, circuit, closure, common, dual, graph, joined, minor, parts, rank, rows, seats, split, table, union,
)
from tests.words import expected

# Of each sort one kind of 4 things, with things that are never free and things that hang together.
FOURS = {
    "graph": graph(4, [0, 1, 1, 2, 2, 0, 5, 5]),
    "table": table(4, 3, rows([1, 0, 2], [2, 0, 1], [0, 1, 1], [])),
    "parts": parts([0, 0, 0, 15], [2] + [1] * 14 + [0]),
    "seats": seats([1, 3, 2, 1 << 31]),
}

SOME_WEIGHTS = (
    [0, 0, 0, 0], [1, 2, 3, 4], [4, 3, 2, 1], [-1, -2, -2, -1], [LOWEST, HIGHEST, LOWEST, HIGHEST], [5, -5, 0, 5],
    [0, 0, 0], [0] * 5, [],
)


def all_questions(m, n):
    """Everything that can be asked of a kind of n things, and a little beyond."""
    sets = list(range(1 << n)) + [1 << n, 1 << 63]
    found = [ask(m, chosen) for chosen in sets for ask in (rank, closure, split)]
    found += [circuit(m, chosen, e) for chosen in sets for e in range(-1, n + 1)]
    return found + [best(m, weight) for weight in SOME_WEIGHTS]


class Case(unittest.TestCase):
    def hold(self, calls, questions):
        """The questions, put behind the calls as many as a line has room for, are answered by the words."""
        room = 100 - len(calls)
        told = expected(calls + questions)
        self.assertEqual(asked(*calls), told[:len(calls)])
        for place in range(0, len(questions), room):
            some = questions[place:place + room]
            given = asked(*calls, *some)[len(calls):]
            for call, numbers, right in zip(some, given, told[len(calls) + place:]):
                self.assertEqual(numbers, right, (calls, call))


class EverySort(Case):
    def test_plain_kinds_and_what_is_made_from_them(self):
        for name, kind in FOURS.items():
            with self.subTest(name):
                calls = [kind, dual(0), minor(0, 1, 2), minor(1, 0, 4), dual(2), minor(3, 2, 1), union(4, 0)]
                self.hold(calls, [call for m in range(7) for call in all_questions(m, 4)])

    def test_unions_of_all_pairs_and_what_is_made_from_them(self):
        for one in FOURS.values():
            for other in FOURS.values():
                calls = [one, other, union(0, 1), dual(2), minor(2, 8, 1), minor(3, 1, 0), dual(4)]
                self.hold(calls, [call for m in (2, 3, 4, 5, 6) for call in all_questions(m, 4)])

    def test_unions_of_duals_and_minors(self):
        for one in FOURS.values():
            for other in FOURS.values():
                calls = [one, other, dual(0), minor(1, 1, 0), dual(3), union(2, 3), union(4, 2), minor(6, 0, 2)]
                self.hold(calls, [call for m in (5, 6, 7) for call in all_questions(m, 4)])

    def test_common_of_all_pairs(self):
        calls = []
        for kind in FOURS.values():
            m = len(calls)
            calls += [kind, dual(m), minor(m, 0, 1), minor(m + 1, 1, 2), dual(m + 2)]
        calls += [union(0, 5), dual(len(calls)), graph(3)]
        there = range(-1, len(calls) + 1)
        self.hold(calls, [common(a, b) for a in there for b in there])


def some_kind(chance, n):
    """A kind of n things, now and then one that is refused."""
    sort = chance.randrange(4)
    if sort == 0:
        wrong = chance.randrange(20) == 0
        return graph(-1) if wrong else graph(n, [chance.choice([0, 1, 2, 3, 255]) for k in range(2 * n)])
    if sort == 1:
        p = chance.choice([2, 2, 3]) if n < 6 else 2
        width = chance.choice([1, 2, 3, 16])
        cells = [chance.randrange(p) if k % 16 < width else 0 for k in range(16 * n)]
        return table(n, chance.choice([p] * 9 + [4]), cells)
    if sort == 2:
        part = [chance.choice([0, 0, 1, 1, 7, 15]) for e in range(n)]
        return parts([chance.choice([i] * 40 + [16]) for i in part], [chance.randrange(4) for i in range(16)])
    return seats([chance.choice([0, 1, 2, 3, 5, 6, 12, 1 << 31]) for e in range(n)])


def some_set(chance, n):
    return chance.choice([chance.randrange(1 << n), chance.randrange(1 << n) & chance.randrange(1 << n)] * 15 + [1 << n])


def some_call(chance, n, made):
    """A call about about made kinds of n things; the last of them are asked most."""
    m = chance.choice([made - 1, chance.randrange(-1, made + 1), chance.randrange(made + 1)])
    other = chance.randrange(-1, made + 1) if chance.randrange(8) == 0 else chance.randrange(min(made, 6) + 1)
    sort = chance.randrange(100)
    if sort == 0:
        return BEGIN
    if sort < 10:
        return some_kind(chance, n if chance.randrange(12) else chance.randrange(4))
    if sort < 16:
        return dual(m)
    if sort < 24:
        without = some_set(chance, n) & some_set(chance, n)
        return minor(m, without, some_set(chance, n) & (~without if chance.randrange(9) else -1))
    if sort < 40:
        pair = chance.choice([(m, other), (other, m), (other, chance.randrange(min(made, 6) + 1))])
        return chance.choice([union, common])(*pair)
    if sort < 60:
        return chance.choice([rank, closure])(m, some_set(chance, n))
    if sort < 75:
        return circuit(m, some_set(chance, n), chance.randrange(-1, n + 1) if chance.randrange(9) else n)
    if sort < 90:
        size = n if chance.randrange(9) else n + 1
        return best(m, [chance.choice([0, 1, -1, 7, LOWEST, HIGHEST, chance.randrange(-99, 99)]) for e in range(size)])
    return split(m, some_set(chance, n))


def some_line(chance, n):
    calls = [some_kind(chance, n) for k in range(3)]
    while len(calls) < 100:
        calls.append(some_call(chance, n, 3 + len(calls) // 5))
    return calls


class ByChance(unittest.TestCase):
    def hold(self, calls, seed):
        told = expected(calls)
        for call, numbers, right in zip(calls, asked(*calls), told):
            self.assertEqual(numbers, right, (seed, call))
        return told

    def test_few_things(self):
        seen = {}
        for seed in range(240):
            calls = some_line(random.Random(seed), seed % 6)
            for call, numbers in zip(calls, self.hold(calls, seed)):
                seen[call[0], min(numbers[0], 0)] = True
        # Every call has been seen with every refusal it has, and without.
        refusals = {0: [], 7: [-1, -4, -3], 8: [-1], 9: [-1], 10: [-1, -4], 11: [-1], 12: [-1, -4], 13: [-1, -4]}
        for sort in range(14):
            made = [-3] if sort == 4 else [-1, -3]
            for number in [0] + refusals.get(sort, made):
                self.assertIn((sort, number), seen)

    def test_nine_things(self):
        for seed in range(12):
            self.hold(some_line(random.Random(seed), 9), seed)


class TheMost(Case):
    """Lines of 100 calls that ask the most of the program."""

    firsts = (
        [table(9, 2, rows(*[[e & 1, e >> 1 & 1, e >> 2 & 1, e >> 3] for e in range(1, 10)])), seats([7, 3, 6] * 3)],
        [graph(9, [0, 1, 1, 2, 2, 0, 2, 3, 3, 0, 1, 3, 3, 4, 4, 0, 4, 4]), parts([0, 0, 0, 1, 1, 1, 2, 2, 2])],
    )

    def chain(self, first, joined_at):
        """32 kinds, each made from the one before; from joined_at on they are made from a union."""
        calls = list(first)
        while len(calls) < 32:
            m = len(calls) - 1
            if m + 1 == joined_at:
                calls.append(union(m, m - 1))
            elif m % 2 == 0:
                calls.append(dual(m))
            else:
                calls.append(minor(m, 1 << m % 9 if m % 7 == 0 else 0, 1 << (m + 4) % 9 if m % 5 == 0 else 0))
        return calls

    def asking(self, m, seed):
        chance = random.Random(seed)
        found = []
        while len(found) < 68:
            chosen = chance.randrange(512)
            weight = [chance.randrange(LOWEST, HIGHEST) for e in range(9)]
            found += [rank(m, chosen), closure(m, chosen), best(m, weight)]
            found += [circuit(m, chosen & chance.randrange(512), e) for e in (0, 3, 8)]
        return found[:68]

    def test_a_chain_of_32(self):
        for first in self.firsts:
            for joined_at in (2, 16, 31):
                calls = self.chain(first, joined_at)
                self.hold(calls, self.asking(31, joined_at))

    def test_a_chain_with_no_union(self):
        for first in self.firsts:
            calls = self.chain(first, 0)
            questions = self.asking(31, 7)[:40] + [common(31, b) for b in range(28)]
            self.hold(calls, questions)

    def test_splits_of_the_last(self):
        for first in self.firsts:
            self.hold(self.chain(first, 31), [split(31, chosen * 7 % 512) for chosen in range(68)])

    def test_the_last_asked_again_and_again_for_all(self):
        calls = self.chain(self.firsts[0], 2)
        for ask in (rank, closure):
            for place in range(0, 512, 68):
                self.hold(calls, [ask(31, chosen) for chosen in range(place, min(place + 68, 512))])

    def test_the_longest_list(self):
        cells = [(7919 * k * k + 31 * k) % 65521 for k in range(144)]
        calls = [table(9, 65521, cells)] * 2 + [union(0, 1)] + [table(9, 65521, cells)] * 97
        self.assertLess(len(joined(calls)), 16000)
        self.assertEqual(asked(*calls), [[m] for m in range(32)] + [[FULL]] * 68)

    def test_many_unions_and_meetings_after_begin(self):
        # Rows that are sums of 4: two such tables can't hold all 9 things at once.
        few = [[(k + 2) ** (c + 1) % 65521 for c in range(16)] for k in range(4)]
        cells = [sum((e + 1) ** k * few[k][c] for k in range(4)) % 65521 for e in range(9) for c in range(16)]
        turn = [table(9, 65521, cells), table(9, 65521, cells), union(0, 1), closure(2, 255), common(0, 1), BEGIN]
        right = [[0], [1], [2], [9, 511], [4], [0]]
        self.assertEqual(asked(*turn * 16), right * 16)


if __name__ == "__main__":
    unittest.main()
