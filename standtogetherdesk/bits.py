"""Sets of things: a set is a number whose bit e is 1 if thing e is in it."""


def members(chosen):
    """The things of a set, the lowest first."""
    return [e for e in range(chosen.bit_length()) if has(chosen, e)]


def has(chosen, e):
    return (chosen >> e) & 1 == 1


def size(chosen):
    return len(members(chosen))


def only(e):
    """The set of one thing alone."""
    return 1 << e


def all_things(n):
    return (1 << n) - 1
