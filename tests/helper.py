"""Calls as the numbers that tell them, and answers as the numbers answered."""

from standtogetherdesk.desk import answers

WRONG = -1
FULL = -3
MOST_KINDS = 32
GREATEST_PRIME = 65521

BEGIN = [0]


def row(numbers):
    return [len(numbers)] + list(numbers)


def graph(n, ends=None):
    if ends is None:
        ends = [0] * (2 * max(n, 0))
    return [1, n] + row(ends)


def table(n, p, cells=None):
    if cells is None:
        cells = [0] * (16 * max(n, 0))
    return [2, n, p] + row(cells)


def parts(part, most=None):
    if most is None:
        most = [1] * 16
    return [3] + row(part) + row(most)


def seats(wanted):
    return [4] + row(wanted)


def dual(m):
    return [5, m]


def minor(m, without=0, within=0):
    return [6, m, without, within]


def joined(calls):
    return [number for call in calls for number in call]


def answered(*calls):
    """The one number that each call answers; its count must be 1."""
    given = answers(joined(calls))
    if given[0::2] != [1] * len(calls) or len(given) != 2 * len(calls):
        raise AssertionError(f"not one number for each call: {given}")
    return given[1::2]
