"""The kinds: each has things 0, 1, .. and tells the rank of a set of them.

A set is free just when its rank is how many things it has, so the rank says
all about a kind.
"""

from standtogetherdesk.bits import all_things, members, size
from standtogetherdesk.meeting import greatest_common

COLUMNS = 16
PARTS = 16


class Kind:
    """What all kinds share; each sort of kind says itself, by find_rank, how
    the rank of a set is found."""

    def __init__(self, things, from_union):
        self.things = things
        # Whether it is a union or made from one, in however many steps.
        self.from_union = from_union
        self.ranks = {}

    def rank(self, chosen):
        # Kept, as kinds made from kinds ask those below them for the same
        # sets again and again, and the work would grow with each step.
        if chosen not in self.ranks:
            self.ranks[chosen] = self.find_rank(chosen)
        return self.ranks[chosen]

    def is_free(self, chosen):
        return self.rank(chosen) == size(chosen)


def last_point(leads, point):
    while point in leads:
        point = leads[point]
    return point


class Graph(Kind):
    """Thing e is an edge between ends[2 e] and ends[2 e + 1]."""

    def __init__(self, n, ends):
        Kind.__init__(self, n, False)
        self.ends = ends

    def find_rank(self, chosen):
        # Points that are joined lead to the same last point; an edge within
        # what is joined already would close a way.
        leads = {}
        joined = 0
        for e in members(chosen):
            one = last_point(leads, self.ends[2 * e])
            other = last_point(leads, self.ends[2 * e + 1])
            if one != other:
                leads[one] = other
                joined += 1
        return joined


def first_column(row):
    """The first column where a row isn't 0; COLUMNS if there is none."""
    column = 0
    while column < COLUMNS and row[column] == 0:
        column += 1
    return column


def without_column(row, base, column, p):
    """A multiple of row, less a multiple of base, that is 0 in column."""
    # Row is multiplied by what base has there, which isn't 0: so no inverse
    # is asked for, and modulo a prime nothing of row is lost.
    mine = row[column]
    theirs = base[column]
    return [(theirs * x - mine * y) % p for x, y in zip(row, base)]


class Table(Kind):
    """Thing e is a row of numbers modulo the prime p."""

    def __init__(self, n, p, cells):
        Kind.__init__(self, n, False)
        self.p = p
        self.rows = [cells[COLUMNS * e:COLUMNS * (e + 1)] for e in range(n)]

    def find_rank(self, chosen):
        # Each base is 0 in the columns of those kept before it, so going
        # through them in the order they came leaves a row 0 in all of these.
        bases = {}
        for e in members(chosen):
            row = self.rows[e]
            for column, base in bases.items():
                row = without_column(row, base, column, self.p)
            first = first_column(row)
            if first < COLUMNS:
                bases[first] = row
        return len(bases)


class Parts(Kind):
    """Thing e is of part[e]; of part i, most[i] things can stand together."""

    def __init__(self, part, most):
        Kind.__init__(self, len(part), False)
        self.part = part
        self.most = most

    def find_rank(self, chosen):
        counts = [0] * PARTS
        for e in members(chosen):
            counts[self.part[e]] += 1
        return sum([min(has, may) for has, may in zip(counts, self.most)])


def can_sit(seats, sitters, tried, thing):
    """Seats a thing, moving those who sit already if need be."""
    # A seat is tried once a newcomer, so this nests no deeper than there are seats.
    for seat in members(seats[thing]):
        if seat not in tried:
            tried[seat] = True
            if seat not in sitters or can_sit(seats, sitters, tried, sitters[seat]):
                sitters[seat] = thing
                return True
    return False


class Seats(Kind):
    """Thing e may sit on the seats whose bits are 1 in seats[e]."""

    def __init__(self, seats):
        Kind.__init__(self, len(seats), False)
        self.seats = seats

    def find_rank(self, chosen):
        sitters = {}
        for e in members(chosen):
            can_sit(self.seats, sitters, {}, e)
        return len(sitters)


class Dual(Kind):
    """Free is what some greatest free set of another kind has nothing of."""

    def __init__(self, kind):
        Kind.__init__(self, kind.things, kind.from_union)
        self.kind = kind

    def find_rank(self, chosen):
        whole = all_things(self.things)
        return size(chosen) + self.kind.rank(whole & ~chosen) - self.kind.rank(whole)


class Minor(Kind):
    """Free is what has nothing of without and within, and is free in another
    kind with a greatest free subset of within."""

    def __init__(self, kind, without, within):
        Kind.__init__(self, kind.things, kind.from_union)
        self.kind = kind
        self.taken = without | within
        self.within = within

    def find_rank(self, chosen):
        left = chosen & ~self.taken
        return self.kind.rank(left | self.within) - self.kind.rank(self.within)


class Union(Kind):
    """Free is what has two parts, the first free in one kind, the second in
    another."""

    def __init__(self, first, second):
        Kind.__init__(self, first.things, True)
        self.first = first
        self.second = second

    def find_rank(self, chosen):
        # The second part may be a greatest one that is free in the second
        # kind; the first is then as great as any that is free in the first
        # kind and leaves room for such a second part, which the dual tells.
        outside = all_things(self.things) & ~chosen
        leaving_room = Dual(Minor(self.second, outside, 0))
        first_part = greatest_common(self.first, leaving_room, chosen)
        return size(first_part) + self.second.rank(chosen)
