"""The kinds: each has things 0, 1, .. and tells the rank of a set of them.

A set is a number whose bit e is 1 if thing e is in it. It is free just when
its rank is how many things it has, so the rank says all about a kind.
"""

COLUMNS = 16
PARTS = 16


def members(chosen):
    """The numbers of the bits of a set that are 1, the lowest first."""
    return [e for e in range(chosen.bit_length()) if (chosen >> e) & 1 == 1]


def all_things(n):
    return (1 << n) - 1


def last_point(leads, point):
    while point in leads:
        point = leads[point]
    return point


class Graph:
    """Thing e is an edge between ends[2 e] and ends[2 e + 1]."""

    def __init__(self, n, ends):
        self.things = n
        self.ends = ends

    def rank(self, chosen):
        # Points that are joined lead to the same last point; an edge within
        # what is joined already would close a way.
        leads = {}
        joined = 0
        for e in members(chosen):
            one = last_point(leads, self.ends[2 * e])
            other = last_point(leads, self.ends[2 * e + 1])
            if one != other:
                leads[one] = other
                joined += 1
        return joined


def first_column(row):
    """The first column where a row isn't 0; COLUMNS if there is none."""
    column = 0
    while column < COLUMNS and row[column] == 0:
        column += 1
    return column


def without_column(row, base, column, p):
    """A multiple of row, less a multiple of base, that is 0 in column."""
    # Row is multiplied by what base has there, which isn't 0: so no inverse
    # is asked for, and modulo a prime nothing of row is lost.
    mine = row[column]
    theirs = base[column]
    return [(theirs * x - mine * y) % p for x, y in zip(row, base)]


class Table:
    """Thing e is a row of numbers modulo the prime p."""

    def __init__(self, n, p, cells):
        self.things = n
        self.p = p
        self.rows = [cells[COLUMNS * e:COLUMNS * (e + 1)] for e in range(n)]

    def rank(self, chosen):
        # Each base is 0 in the columns of those kept before it, so going
        # through them in the order they came leaves a row 0 in all of these.
        bases = {}
        for e in members(chosen):
            row = self.rows[e]
            for column, base in bases.items():
                row = without_column(row, base, column, self.p)
            first = first_column(row)
            if first < COLUMNS:
                bases[first] = row
        return len(bases)


class Parts:
    """Thing e is of part[e]; of part i, most[i] things can stand together."""

    def __init__(self, part, most):
        self.things = len(part)
        self.part = part
        self.most = most

    def rank(self, chosen):
        counts = [0] * PARTS
        for e in members(chosen):
            counts[self.part[e]] += 1
        return sum([min(has, may) for has, may in zip(counts, self.most)])


def can_sit(seats, sitters, tried, thing):
    """Seats a thing, moving those who sit already if need be."""
    # A seat is tried once a newcomer, so this nests no deeper than there are seats.
    for seat in members(seats[thing]):
        if seat not in tried:
            tried[seat] = True
            if seat not in sitters or can_sit(seats, sitters, tried, sitters[seat]):
                sitters[seat] = thing
                return True
    return False


class Seats:
    """Thing e may sit on the seats whose bits are 1 in seats[e]."""

    def __init__(self, seats):
        self.things = len(seats)
        self.seats = seats

    def rank(self, chosen):
        sitters = {}
        for e in members(chosen):
            can_sit(self.seats, sitters, {}, e)
        return len(sitters)


class Dual:
    """Free is what some greatest free set of another kind has nothing of."""

    def __init__(self, kind):
        self.things = kind.things
        self.kind = kind
        self.whole = all_things(kind.things)
        # Kept, as asking for it each time would double the work with each
        # dual that a kind is made through.
        self.whole_rank = kind.rank(self.whole)

    def rank(self, chosen):
        others = self.whole & ~chosen
        return len(members(chosen)) + self.kind.rank(others) - self.whole_rank


class Minor:
    """Free is what has nothing of without and within, and is free in another
    kind with a greatest free subset of within."""

    def __init__(self, kind, without, within):
        self.things = kind.things
        self.kind = kind
        self.taken = without | within
        self.within = within
        # Kept for the reason that Dual keeps its whole's.
        self.within_rank = kind.rank(within)

    def rank(self, chosen):
        left = chosen & ~self.taken
        return self.kind.rank(left | self.within) - self.within_rank
