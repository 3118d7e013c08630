"""The calls: each is read from the list of calls and answered."""

from standtogetherdesk.kinds import PARTS, Dual, Graph, Minor, Parts, Seats, Table
from standtogetherdesk.reading import Reader

WRONG = -1
FULL = -3

MOST_KINDS = 32
MOST_THINGS = 64
PRIMES_END = 65536


class Desk:
    """The one object that a list of calls is about: the kinds made so far."""

    def __init__(self):
        self.kinds = []

    def begin(self):
        self.kinds = []

    def has_kind(self, m):
        return 0 <= m < len(self.kinds)

    def keep(self, kind):
        """The number of a new kind, or the refusal if there's no room for it."""
        if len(self.kinds) >= MOST_KINDS:
            return FULL
        self.kinds.append(kind)
        return len(self.kinds) - 1


def can_be_size(n):
    return 0 <= n <= MOST_THINGS


def can_be_modulus(p):
    """Whether p is a prime below PRIMES_END."""
    # The end is asked first: it keeps the walk through the divisors short.
    if p < 2 or p >= PRIMES_END:
        return False
    divisor = 2
    while divisor * divisor <= p:
        if p % divisor == 0:
            return False
        divisor += 1
    return True


def all_below(numbers, end):
    return all([number < end for number in numbers])


def is_set_of(chosen, n):
    return (chosen >> n) == 0


def answer_begin(desk, reader):
    desk.begin()
    return [0]


def answer_graph(desk, reader):
    n = reader.number()
    ends = reader.row()
    if not can_be_size(n):
        return [WRONG]
    return [desk.keep(Graph(n, ends))]


def answer_table(desk, reader):
    n = reader.number()
    p = reader.number()
    cells = reader.row()
    if not can_be_size(n) or not can_be_modulus(p) or not all_below(cells, p):
        return [WRONG]
    return [desk.keep(Table(n, p, cells))]


def answer_parts(desk, reader):
    part = reader.row()
    most = reader.row()
    if not can_be_size(len(part)) or not all_below(part, PARTS):
        return [WRONG]
    return [desk.keep(Parts(part, most))]


def answer_seats(desk, reader):
    seats = reader.row()
    if not can_be_size(len(seats)):
        return [WRONG]
    return [desk.keep(Seats(seats))]


def answer_dual(desk, reader):
    m = reader.number()
    if not desk.has_kind(m):
        return [WRONG]
    return [desk.keep(Dual(desk.kinds[m]))]


def answer_minor(desk, reader):
    m = reader.number()
    without = reader.number()
    within = reader.number()
    if not desk.has_kind(m):
        return [WRONG]
    kind = desk.kinds[m]
    if not is_set_of(without | within, kind.things) or (without & within) != 0:
        return [WRONG]
    return [desk.keep(Minor(kind, without, within))]


CALLS = {
    0: answer_begin,
    1: answer_graph,
    2: answer_table,
    3: answer_parts,
    4: answer_seats,
    5: answer_dual,
    6: answer_minor,
}


def answers(calls):
    """For each call, in order: how many numbers are answered, then these."""
    desk = Desk()
    reader = Reader(calls)
    given = []
    while not reader.is_done():
        answer_call = CALLS[reader.number()]
        answered = answer_call(desk, reader)
        given.append(len(answered))
        given.extend(answered)
    return given
