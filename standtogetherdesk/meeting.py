"""Where two kinds meet: a greatest set that is free in both."""

from standtogetherdesk.bits import has, members, only


def exchanges(first, second, taken, others, e):
    """The things a way goes on to from e: of taken if e is of others, of
    others if e is of taken."""
    moved = taken ^ only(e)
    if has(taken, e):
        return [f for f in members(others) if first.is_free(moved ^ only(f))]
    return [f for f in members(taken) if second.is_free(moved ^ only(f))]


def shortest_way(first, second, taken, others):
    """The things of a shortest way by which taken can grow by one, 0 if there
    is none: those of others come in, those of taken go out."""
    # A longer way could leave a set that isn't free in both, so things are
    # reached by the fewest steps: those reached earlier go on earlier.
    reached = [e for e in members(others) if first.is_free(taken | only(e))]
    ways = {}
    for e in reached:
        ways[e] = only(e)
    place = 0
    while place < len(reached):
        e = reached[place]
        place += 1
        if has(others, e) and second.is_free(taken | only(e)):
            return ways[e]
        for f in exchanges(first, second, taken, others, e):
            if f not in ways:
                ways[f] = ways[e] | only(f)
                reached.append(f)
    return 0


def greatest_common(first, second, chosen):
    """A subset of chosen that is free in both kinds, as great as any such."""
    taken = 0
    way = shortest_way(first, second, taken, chosen)
    while way != 0:
        taken = taken ^ way
        way = shortest_way(first, second, taken, chosen & ~taken)
    return taken
