"""Calls as the numbers that tell them, and answers as the numbers answered."""

from standtogetherdesk.desk import answers

WRONG = -1
FULL = -3
UNFIT = -4
MOST_KINDS = 32
GREATEST_PRIME = 65521
LOWEST = -2147483648
HIGHEST = 2147483647
LAST_SET = 18446744073709551615

BEGIN = [0]


def row(numbers):
    return [len(numbers)] + list(numbers)


def graph(n, ends=None):
    if ends is None:
        ends = [0] * (2 * max(n, 0))
    return [1, n] + row(ends)


def table(n, p, cells=None):
    if cells is None:
        cells = [0] * (16 * max(n, 0))
    return [2, n, p] + row(cells)


def parts(part, most=None):
    if most is None:
        most = [1] * 16
    return [3] + row(part) + row(most)


def seats(wanted):
    return [4] + row(wanted)


def dual(m):
    return [5, m]


def minor(m, without=0, within=0):
    return [6, m, without, within]


def union(a, b):
    return [7, a, b]


def rank(m, chosen):
    return [8, m, chosen]


def closure(m, chosen):
    return [9, m, chosen]


def circuit(m, chosen, e):
    return [10, m, chosen, e]


def best(m, weight):
    return [11, m] + row(weight)


def split(m, chosen):
    return [12, m, chosen]


def common(a, b):
    return [13, a, b]


def most_of(**given):
    """The 16 numbers of most: p3=2 says 2 of part 3; 0 of those that aren't told."""
    return [given.get(f"p{i}", 0) for i in range(16)]


def rows(*heads):
    """A table's cells: each row is told by its first numbers, the others are 0."""
    return [cell for head in heads for cell in list(head) + [0] * (16 - len(head))]


def joined(calls):
    return [number for call in calls for number in call]


def asked(*calls):
    """The numbers that each call answers, a list for each call."""
    given = answers(joined(calls))
    found = []
    place = 0
    while place < len(given):
        end = place + 1 + given[place]
        found.append(given[place + 1:end])
        place = end
    if place != len(given) or len(found) != len(calls) or [] in found:
        raise AssertionError(f"not an answer for each call: {given}")
    return found


def answered(*calls):
    """The one number that each call answers; its count must be 1."""
    found = asked(*calls)
    if any(len(numbers) != 1 for numbers in found):
        raise AssertionError(f"not one number for each call: {found}")
    return [numbers[0] for numbers in found]


def last(*calls):
    """The numbers that the last call answers."""
    return asked(*calls)[-1]
