"""The form of answers(calls), and what it may not do."""

import contextlib
import io
import random
import unittest

from standtogetherdesk.desk import answers
from tests.helper import (
    BEGIN, FULL, MOST_KINDS, WRONG,
    answered, best, circuit, closure, common, dual, graph, joined, minor, parts, rank, seats, split, table, union,
)

# Every call, with its numbers answered.
SOME_CALLS = [
    (graph(2, [0, 1, 1, 0]), [0]), (table(1, 5, list(range(4)) * 4), [1]), (parts([0, 15, 1]), [2]),
    (seats([3, 5]), [3]), (dual(0), [4]), (minor(3, 1, 2), [5]), (graph(-1), [-1]), (dual(9), [-1]),
    (union(0, 3), [6]), (union(6, 0), [-4]), (union(0, 1), [-1]), (rank(6, 3), [2]), (rank(0, 4), [-1]),
    (closure(0, 1), [2, 3]), (closure(2, 0), [0, 0]), (closure(7, 0), [-1]), (circuit(0, 1, 1), [2, 3]),
    (circuit(0, 0, 1), [-4]), (circuit(0, 1, 2), [-1]), (best(2, [3, 1, 2]), [3, 7]), (best(0, [1]), [-1]),
    (best(4, [1, 2]), [1, 2]), (split(6, 3), [0]), (split(0, 3), [-4]), (split(6, 4), [-1]), (common(0, 3), [1]),
    (common(0, 6), [-4]), (common(0, 2), [-1]), (BEGIN, [0]), (minor(0, 0, 0), [-1]), (seats([]), [0]),
    (closure(0, 0), [0, 0]), (best(0, []), [0, 0]),
]
SOME = joined([call for call, numbers in SOME_CALLS])
SOME_ANSWERS = joined([[len(numbers)] + numbers for call, numbers in SOME_CALLS])


class Unchangeable(list):
    """A list that can only be read."""

    def refuse(self, *given, **named):
        raise AssertionError("the list handed in is changed")

    __setitem__ = __delitem__ = __iadd__ = __imul__ = refuse
    append = extend = insert = pop = remove = clear = reverse = sort = refuse


class Form(unittest.TestCase):
    def test_how_many_then_these(self):
        self.assertEqual(answers([0]), [1, 0])
        self.assertEqual(answers([5, 0]), [1, -1])
        self.assertEqual(answers([1, 1, 2, 7, 8]), [1, 0])
        self.assertEqual(answers([4, 0, 4, 1, 6, 0]), [1, 0, 1, 1, 1, 0])
        self.assertEqual(answers(SOME), SOME_ANSWERS)

    def test_two_numbers_of_closure_circuit_and_best_else_one(self):
        self.assertEqual(answers([1, 1, 2, 0, 1, 9, 0, 1]), [1, 0, 2, 1, 1])
        self.assertEqual(answers([1, 1, 2, 0, 0, 10, 0, 0, 0]), [1, 0, 2, 1, 1])
        self.assertEqual(answers([1, 1, 2, 0, 1, 11, 0, 1, -5]), [1, 0, 2, 1, 1])
        self.assertEqual(answers([1, 1, 2, 0, 1, 7, 0, 0, 8, 1, 1, 12, 1, 1, 13, 0, 0]), [1, 0, 1, 1, 1, 1, 1, 0, 1, 1])
        self.assertEqual(answers([9, 0, 0, 10, 0, 0, 0, 11, 0, 0]), [1, -1] * 3)
        self.assertEqual(answers([7, 0, 0, 8, 0, 0, 12, 0, 0, 13, 0, 0]), [1, -1] * 4)

    def test_a_count_of_0_stands_with_its_set(self):
        self.assertEqual(answers([4, 0, 9, 0, 0, 11, 0, 0]), [1, 0, 2, 0, 0, 2, 0, 0])

    def test_numbers_within_a_call_are_no_calls(self):
        self.assertEqual(answers([1, -1, 0, 0]), [1, -1, 1, 0])
        self.assertEqual(answers([2, -5, 4, 0, 5, 0]), [1, -1, 1, -1])
        self.assertEqual(answers([3, 2, 0, 16, 16] + [0] * 16 + [4, 2, 0, 0]), [1, -1, 1, 0])
        self.assertEqual(answers([6, 0, 0, 0, 4, 1, 5, 6, 0, 1, 0]), [1, -1, 1, 0, 1, 1])
        self.assertEqual(answers([2, 1, 3, 16] + [3] * 16 + [5, 5, 0]), [1, -1, 1, -1, 1, 0])
        self.assertEqual(answers([11, 0, 3, 0, 0, 0, 0]), [1, -1, 1, 0])
        self.assertEqual(answers([4, 1, 1, 11, 0, 2, 4, 0, 8, 0, 1]), [1, 0, 1, -1, 1, 1])
        self.assertEqual(answers([7, 0, 0, 10, 0, 0, 0, 8, 0, 0, 13, 0, 0, 0]), [1, -1] * 4 + [1, 0])

    def test_a_list_of_ints(self):
        given = answers(SOME)
        self.assertIs(list, given.__class__)
        for number in given:
            self.assertIs(int, number.__class__)


class Untouched(unittest.TestCase):
    def test_the_list_is_the_same_afterwards(self):
        handed = list(SOME)
        answers(handed)
        self.assertEqual(handed, SOME)

    def test_nor_is_it_changed_for_a_while(self):
        self.assertEqual(answers(Unchangeable(SOME)), SOME_ANSWERS)

    def test_asked_twice_and_another_in_between(self):
        other = joined([graph(1)] * 40)
        first = answers(SOME)
        between = answers(other)
        self.assertEqual(answers(SOME), first)
        self.assertEqual(first, SOME_ANSWERS)
        self.assertEqual(answers(other), between)

    def test_ranks_are_not_those_of_an_earlier_list(self):
        asking = [union(0, 0), rank(0, 3), rank(1, 3), common(0, 0), best(0, [1, 2]), closure(1, 0)]
        for k in range(2):
            self.assertEqual(answers(joined([seats([1, 1])] + asking)), [1, 0, 1, 1, 1, 1, 1, 2, 1, 1, 2, 1, 2, 2, 0, 0])
            self.assertEqual(answers(joined([seats([0, 0])] + asking)), [1, 0, 1, 1, 1, 0, 1, 0, 1, 0, 2, 0, 0, 2, 2, 3])

    def test_nor_those_from_before_begin(self):
        asking = [union(0, 0), rank(0, 3), rank(1, 3)]
        given = answered(seats([1, 1]), *asking, BEGIN, seats([0, 0]), *asking, BEGIN, seats([1, 1]), *asking)
        self.assertEqual(given, [0, 1, 1, 2, 0, 0, 1, 0, 0, 0, 0, 1, 1, 2])

    def test_no_kinds_from_an_earlier_list(self):
        answers(joined([graph(1)] * 32))
        self.assertEqual(answers([5, 0]), [1, -1])
        self.assertEqual(answers(graph(1)), [1, 0])

    def test_the_answer_is_the_askers(self):
        answers(SOME).clear()
        self.assertEqual(answers(SOME), SOME_ANSWERS)

    def test_nothing_is_printed(self):
        out = io.StringIO()
        err = io.StringIO()
        with contextlib.redirect_stdout(out), contextlib.redirect_stderr(err):
            answers(SOME)
        self.assertEqual((out.getvalue(), err.getvalue()), ("", ""))


class Hundred(unittest.TestCase):
    def test_begins(self):
        self.assertEqual(answers([0] * 100), [1, 0] * 100)

    def test_the_longest_calls(self):
        for call in (table(9, 65521, [65520] * 144), graph(9), parts([15] * 9), seats([4294967295] * 9)):
            self.assertEqual(answered(*[call] * 100), list(range(32)) + [FULL] * 68)

    def test_each_made_from_the_one_before(self):
        calls = [table(9, 65521, [k * k * 7 % 65521 for k in range(144)])]
        for m in range(49):
            calls.append(dual(m) if m % 2 == 0 else minor(m, 1 << m % 9, 1 << (m + 4) % 9))
        expected = list(range(32)) + [FULL] + [WRONG] * 17
        self.assertEqual(answered(*calls, *calls), expected + [FULL] + [FULL] * 32 + [WRONG] * 17)

    def test_mixed_lists(self):
        for seed in range(200):
            calls, expected = mixed(random.Random(seed), 100)
            self.assertEqual(answered(*calls), expected, seed)


def mixed(chance, size):
    """Calls with what they must answer; only the kinds' sizes are kept for that."""
    sizes = []
    calls = []
    expected = []
    for k in range(size):
        call, things = mixed_call(chance, sizes)
        calls.append(call)
        if call == BEGIN:
            sizes = []
            expected.append(0)
        elif things is None:
            expected.append(WRONG)
        elif len(sizes) == MOST_KINDS:
            expected.append(FULL)
        else:
            expected.append(len(sizes))
            sizes.append(things)
    return calls, expected


def mixed_call(chance, sizes):
    """A call, with how many things its kind has, or None where it is wrong."""
    sort = chance.randrange(100)
    n = chance.choice([-1, 0, 1, 2, 5, 9])
    good = n if n >= 0 else None
    if sort < 2:
        return BEGIN, None
    if sort < 20:
        return graph(n, [chance.randrange(256) for k in range(2 * max(n, 0))]), good
    if sort < 40:
        p = chance.choice([2, 3, 5, 65521, 1, 65537])
        cells = [chance.randrange(p) for k in range(16 * max(n, 0))]
        return table(n, p, cells), good if p not in (1, 65537) else None
    if sort < 50:
        part = [chance.choice([0, 3, 14, 15, 15, 15, 16]) for k in range(max(n, 0))]
        return parts(part), None if 16 in part else len(part)
    if sort < 60:
        return seats([chance.getrandbits(32) for k in range(max(n, 0))]), max(n, 0)
    m = chance.randrange(-1, len(sizes) + 2)
    there = sizes[m] if 0 <= m < len(sizes) else None
    if sort < 75:
        return dual(m), there
    without = chance.getrandbits(5) & chance.getrandbits(5)
    within = chance.getrandbits(5) & chance.getrandbits(5)
    fits = there is not None and max(without, within) < 1 << there and without & within == 0
    return minor(m, without, within), there if fits else None


if __name__ == "__main__":
    unittest.main()
