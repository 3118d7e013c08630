"""What is asked of one kind, beside the rank of a set."""

from standtogetherdesk.bits import members, only


def closure(kind, chosen):
    """The things that are in a set or don't make its rank greater."""
    found = chosen
    for e in range(kind.things):
        if kind.rank(chosen | only(e)) == kind.rank(chosen):
            found = found | only(e)
    return found


def circuit(kind, free, e):
    """Of a free set that e makes not free: the one subset of both together
    that isn't free, though all its other subsets are."""
    both = free | only(e)
    found = only(e)
    for f in members(free):
        # Without a thing of the circuit nothing is left that isn't free.
        if kind.is_free(both & ~only(f)):
            found = found | only(f)
    return found


def best(kind, weight):
    """The free set made by taking the heaviest things first, each that is
    free with those taken."""
    taken = 0
    # sorted leaves equal ones as they come, so the lower number is first.
    for e in sorted(range(kind.things), key=lambda thing: -weight[thing]):
        if kind.is_free(taken | only(e)):
            taken = taken | only(e)
    return taken
