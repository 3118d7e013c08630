"""The document's words, told set by set: slow, and nothing of it is the program's.

A kind is here the list of its free sets; everything else is counted over all
subsets. expected(calls) tells what a whole line of calls answers.
"""

import itertools

WRONG, FULL, UNFIT = -1, -3, -4


def size(chosen):
    return bin(chosen).count("1")


def members(chosen):
    return [e for e in range(64) if chosen >> e & 1]


def subsets_of(chosen):
    return [part for part in range(chosen + 1) if part & ~chosen == 0]


def free_in_graph(n, ends):
    """No closed way: none of the edges' subsets touches each point an even number of times."""
    def closed(part):
        touched = [ends[2 * e + side] for e in members(part) for side in (0, 1)]
        return all(touched.count(point) % 2 == 0 for point in touched)
    return without_any([part for part in range(1, 1 << n) if closed(part)], n)


def free_in_table(n, p, cells):
    """No multiples of the rows, not all 0, add up to 0."""
    bound = set()
    for factors in itertools.product(range(p), repeat=n):
        sums = [sum(f * cells[16 * e + column] for e, f in enumerate(factors)) for column in range(16)]
        if any(factors) and all(total % p == 0 for total in sums):
            bound.add(sum(1 << e for e, f in enumerate(factors) if f != 0))
    return without_any(sorted(bound), n)


def without_any(bound, n):
    return [chosen for chosen in range(1 << n) if not any(part & ~chosen == 0 for part in bound)]


def free_in_parts(part, most):
    def stays(chosen):
        of = [part[e] for e in members(chosen)]
        return all(of.count(i) <= most[i] for i in range(16))
    return [chosen for chosen in range(1 << len(part)) if stays(chosen)]


def free_in_seats(seats):
    """Sets that sit, each with all the sets of seats they may take, thing by thing."""
    taken = {0: {0}}
    for chosen in range(1, 1 << len(seats)):
        last = chosen.bit_length() - 1
        before = taken.get(chosen ^ 1 << last, set())
        now = {held | 1 << seat for held in before for seat in members(seats[last]) if not held >> seat & 1}
        if now:
            taken[chosen] = now
    return list(taken)


def greatest(free, chosen):
    """All greatest free subsets of a set."""
    parts = [part for part in free if part & ~chosen == 0]
    most = max(size(part) for part in parts)
    return [part for part in parts if size(part) == most]


def free_in_dual(free, n):
    whole = (1 << n) - 1
    bases = greatest(free, whole)
    return [chosen for chosen in range(1 << n) if any(base & chosen == 0 for base in bases)]


def free_in_minor(free, n, without, within):
    base = greatest(free, within)[0]
    known = set(free)
    left = [chosen for chosen in range(1 << n) if chosen & (without | within) == 0]
    return [chosen for chosen in left if chosen | base in known]


def free_in_union(one, other):
    return sorted({first | second for first in one for second in other if first & second == 0})


class Words:
    """A kind by its free sets."""

    def __init__(self, n, free, union=False, from_union=False):
        self.n = n
        self.free = sorted(free)
        self.known = set(free)
        self.union = union
        self.from_union = from_union

    def rank(self, chosen):
        return max(size(part) for part in self.free if part & ~chosen == 0)

    def closure(self, chosen):
        return sum(1 << e for e in range(self.n)
                   if chosen >> e & 1 or self.rank(chosen | 1 << e) == self.rank(chosen))

    def circuits(self, chosen):
        """All subsets that aren't free, though all their other subsets are."""
        return [part for part in subsets_of(chosen) if part not in self.known
                and all(less in self.known for less in subsets_of(part) if less != part)]

    def best(self, weight):
        taken = 0
        for least, e in sorted((-weight[e], e) for e in range(self.n)):
            if taken | 1 << e in self.known:
                taken |= 1 << e
        return taken


def is_prime(p):
    return p > 1 and all(p % d for d in range(2, p) if d * d <= p)


def rows_of(call, place):
    rows = []
    while place < len(call):
        rows.append(call[place + 1:place + 1 + call[place]])
        place += 1 + call[place]
    return rows


class Line:
    """Answers one call after another, each a list of its own that begins with the call's number."""

    def __init__(self):
        self.kinds = []

    def answer(self, call):
        sort = call[0]
        if sort == 0:
            self.kinds = []
            return [0]
        if sort <= 4:
            return self.keep(self.plain(call))
        if sort in (7, 13):
            return self.pair(*call)
        m = call[1]
        if not 0 <= m < len(self.kinds):
            return [WRONG]
        if sort <= 6:
            return self.keep(self.made(self.kinds[m], call))
        return self.question(self.kinds[m], sort, call[2:])

    def keep(self, kind):
        if kind is None:
            return [WRONG]
        if len(self.kinds) == 32:
            return [FULL]
        self.kinds.append(kind)
        return [len(self.kinds) - 1]

    def plain(self, call):
        sort = call[0]
        if sort == 1:
            n = call[1]
            return Words(n, free_in_graph(n, rows_of(call, 2)[0])) if n >= 0 else None
        if sort == 2:
            n, p, cells = call[1], call[2], call[4:]
            if n < 0 or p >= 65536 or not is_prime(p) or any(cell >= p for cell in cells):
                return None
            return Words(n, free_in_table(n, p, cells))
        if sort == 3:
            part, most = rows_of(call, 1)
            return Words(len(part), free_in_parts(part, most)) if max(part, default=0) < 16 else None
        return Words(call[1], free_in_seats(call[2:]))

    def made(self, kind, call):
        if call[0] == 5:
            return Words(kind.n, free_in_dual(kind.free, kind.n), False, kind.from_union)
        without, within = call[2:]
        if (without | within) >> kind.n or without & within:
            return None
        return Words(kind.n, free_in_minor(kind.free, kind.n, without, within), False, kind.from_union)

    def pair(self, sort, a, b):
        there = range(len(self.kinds))
        if a not in there or b not in there or self.kinds[a].n != self.kinds[b].n:
            return [WRONG]
        one, other = self.kinds[a], self.kinds[b]
        if one.from_union or other.from_union:
            return [UNFIT]
        if sort == 13:
            return [max(size(chosen) for chosen in one.known & other.known)]
        return self.keep(Words(one.n, free_in_union(one.free, other.free), True, True))

    def question(self, kind, sort, rest):
        if sort == 11:
            weight = rest[1:]
            return counted(kind.best(weight)) if len(weight) == kind.n else [WRONG]
        chosen = rest[0]
        if chosen >> kind.n:
            return [WRONG]
        if sort == 8:
            return [kind.rank(chosen)]
        if sort == 9:
            return counted(kind.closure(chosen))
        if sort == 12:
            return [0] if kind.union and chosen in kind.known else [UNFIT]
        return self.circuit(kind, chosen, rest[1])

    def circuit(self, kind, chosen, e):
        if not 0 <= e < kind.n:
            return [WRONG]
        both = chosen | 1 << e
        if chosen not in kind.known or both == chosen or both in kind.known:
            return [UNFIT]
        (only,) = kind.circuits(both)
        return counted(only)


def counted(chosen):
    return [size(chosen), chosen]


def expected(calls):
    line = Line()
    return [line.answer(call) for call in calls]
