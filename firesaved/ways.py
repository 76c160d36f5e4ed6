"""The tree as it lies around one of its places, where a fire begins: each place's way there."""


class Ways:
    """Of each place, by its number: what is next on its way to the fire, its depth, its part's size."""

    def __init__(self, many, origin):
        # Where the fire begins there is none.
        self.toward = [None for p in range(many)]
        self.depths = [0 for p in range(many)]
        self.sizes = [1 for p in range(many)]
        # All the places, each behind those on its way.
        self.order = [origin]


def neighbours(joined, p):
    """The places joined with p, rising; joined tells of each place to which one it was joined."""
    return [q for q in range(len(joined)) if joined[q] == p or joined[p] == q]


def ways_to(joined, origin):
    """The ways from all the places to this one."""
    ways = Ways(len(joined), origin)
    at = 0
    while at < len(ways.order):
        p = ways.order[at]
        for q in neighbours(joined, p):
            if q != ways.toward[p]:
                ways.toward[q] = p
                ways.depths[q] = ways.depths[p] + 1
                ways.order.append(q)
        at += 1
    for p in reversed(ways.order[1:]):
        ways.sizes[ways.toward[p]] += ways.sizes[p]
    return ways


def further(ways, places):
    """The places that are next to one of these, but further from the fire, rising."""
    return [q for q in range(len(ways.toward)) if ways.toward[q] in places]


def count_beyond(ways, places):
    """How many have one of these places on their way to the fire, themselves too."""
    beyond = {}
    for p in ways.order:
        if p in places or ways.toward[p] in beyond:
            beyond[p] = True
    return len(beyond)
