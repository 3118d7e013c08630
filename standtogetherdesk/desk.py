"""The calls: each is read from the list of calls and answered."""

from standtogetherdesk.bits import all_things, has, only, size
from standtogetherdesk.kinds import PARTS, Dual, Graph, Minor, Parts, Seats, Table, Union
from standtogetherdesk.meeting import greatest_common
from standtogetherdesk.questions import best, circuit, closure
from standtogetherdesk.reading import Reader

WRONG = -1
FULL = -3
UNFIT = -4

MOST_KINDS = 32
MOST_THINGS = 64
PRIMES_END = 65536


class Desk:
    """The one object that a list of calls is about: the kinds made so far."""

    def __init__(self):
        self.kinds = []

    def begin(self):
        self.kinds = []

    def has_kind(self, m):
        return 0 <= m < len(self.kinds)

    def keep(self, kind):
        """The number of a new kind, or the refusal if there's no room for it."""
        if len(self.kinds) >= MOST_KINDS:
            return FULL
        self.kinds.append(kind)
        return len(self.kinds) - 1


def can_be_size(n):
    return 0 <= n <= MOST_THINGS


def can_be_modulus(p):
    """Whether p is a prime below PRIMES_END."""
    # The end is asked first: it keeps the walk through the divisors short.
    if p < 2 or p >= PRIMES_END:
        return False
    divisor = 2
    while divisor * divisor <= p:
        if p % divisor == 0:
            return False
        divisor += 1
    return True


def all_below(numbers, end):
    return all([number < end for number in numbers])


def is_set_of(chosen, n):
    return (chosen >> n) == 0


def pair_refusal(desk, a, b):
    """Why two kinds can't be put side by side; 0 if they can."""
    if not desk.has_kind(a) or not desk.has_kind(b):
        return WRONG
    one = desk.kinds[a]
    other = desk.kinds[b]
    if one.things != other.things:
        return WRONG
    if one.from_union or other.from_union:
        return UNFIT
    return 0


def is_set_of_kind(desk, m, chosen):
    return desk.has_kind(m) and is_set_of(chosen, desk.kinds[m].things)


def how_many_and_set(found):
    return [size(found), found]


def answer_begin(desk, reader):
    desk.begin()
    return [0]


def answer_graph(desk, reader):
    n = reader.number()
    ends = reader.row()
    if not can_be_size(n):
        return [WRONG]
    return [desk.keep(Graph(n, ends))]


def answer_table(desk, reader):
    n = reader.number()
    p = reader.number()
    cells = reader.row()
    if not can_be_size(n) or not can_be_modulus(p) or not all_below(cells, p):
        return [WRONG]
    return [desk.keep(Table(n, p, cells))]


def answer_parts(desk, reader):
    part = reader.row()
    most = reader.row()
    if not can_be_size(len(part)) or not all_below(part, PARTS):
        return [WRONG]
    return [desk.keep(Parts(part, most))]


def answer_seats(desk, reader):
    seats = reader.row()
    if not can_be_size(len(seats)):
        return [WRONG]
    return [desk.keep(Seats(seats))]


def answer_dual(desk, reader):
    m = reader.number()
    if not desk.has_kind(m):
        return [WRONG]
    return [desk.keep(Dual(desk.kinds[m]))]


def answer_minor(desk, reader):
    m = reader.number()
    without = reader.number()
    within = reader.number()
    if not desk.has_kind(m):
        return [WRONG]
    kind = desk.kinds[m]
    if not is_set_of(without | within, kind.things) or (without & within) != 0:
        return [WRONG]
    return [desk.keep(Minor(kind, without, within))]


def answer_union(desk, reader):
    a = reader.number()
    b = reader.number()
    refusal = pair_refusal(desk, a, b)
    if refusal != 0:
        return [refusal]
    return [desk.keep(Union(desk.kinds[a], desk.kinds[b]))]


def answer_rank(desk, reader):
    m = reader.number()
    chosen = reader.number()
    if not is_set_of_kind(desk, m, chosen):
        return [WRONG]
    return [desk.kinds[m].rank(chosen)]


def answer_closure(desk, reader):
    m = reader.number()
    chosen = reader.number()
    if not is_set_of_kind(desk, m, chosen):
        return [WRONG]
    return how_many_and_set(closure(desk.kinds[m], chosen))


def answer_circuit(desk, reader):
    m = reader.number()
    chosen = reader.number()
    e = reader.number()
    if not is_set_of_kind(desk, m, chosen):
        return [WRONG]
    kind = desk.kinds[m]
    if e < 0 or e >= kind.things:
        return [WRONG]
    if has(chosen, e) or not kind.is_free(chosen) or kind.is_free(chosen | only(e)):
        return [UNFIT]
    return how_many_and_set(circuit(kind, chosen, e))


def answer_best(desk, reader):
    m = reader.number()
    weight = reader.row()
    if not desk.has_kind(m) or len(weight) != desk.kinds[m].things:
        return [WRONG]
    return how_many_and_set(best(desk.kinds[m], weight))


def answer_split(desk, reader):
    m = reader.number()
    chosen = reader.number()
    if not is_set_of_kind(desk, m, chosen):
        return [WRONG]
    kind = desk.kinds[m]
    if not isinstance(kind, Union) or not kind.is_free(chosen):
        return [UNFIT]
    return [0]


def answer_common(desk, reader):
    a = reader.number()
    b = reader.number()
    refusal = pair_refusal(desk, a, b)
    if refusal != 0:
        return [refusal]
    one = desk.kinds[a]
    return [size(greatest_common(one, desk.kinds[b], all_things(one.things)))]


CALLS = {
    0: answer_begin,
    1: answer_graph,
    2: answer_table,
    3: answer_parts,
    4: answer_seats,
    5: answer_dual,
    6: answer_minor,
    7: answer_union,
    8: answer_rank,
    9: answer_closure,
    10: answer_circuit,
    11: answer_best,
    12: answer_split,
    13: answer_common,
}


def answers(calls):
    """For each call, in order: how many numbers are answered, then these."""
    desk = Desk()
    reader = Reader(calls)
    given = []
    while not reader.is_done():
        answer_call = CALLS[reader.number()]
        answered = answer_call(desk, reader)
        given.append(len(answered))
        given.extend(answered)
    return given
