"""Which places are saved turn by turn: the best, and the greatest first.

In each turn some are saved of those that the fire would reach in it; these are the turn's front.
What is still reached later lies beyond the front's other places.
"""

from firesaved.ways import further


def first_front(ways):
    """What the fire would reach in the first turn, rising."""
    return further(ways, ways.order[:1])


def front_behind(ways, front, chosen):
    """What the fire would reach in the turn behind this one, when the chosen of the front are saved."""
    return further(ways, [p for p in front if p not in chosen])


def choices(front, each):
    """All that may be saved of the front in one turn, the ones that come first ahead.

    Never fewer than may be: each place more keeps itself at least.
    """
    if len(front) <= each:
        return [front]
    if each == 0:
        return [[]]
    with_first = [front[:1] + others for others in choices(front[1:], each - 1)]
    return with_first + choices(front[1:], each)


def count_kept(ways, places):
    """How many are kept by a choice of places, of which none lies beyond another."""
    return sum([ways.sizes[p] for p in places])


def best_from(ways, each, front):
    """The best from this front on, in order of turns."""
    if len(front) <= each:
        return front
    most = 0
    best = []
    for chosen in choices(front, each):
        places = chosen + best_from(ways, each, front_behind(ways, front, chosen))
        # What comes later must keep more: of alike ones the first is told.
        if count_kept(ways, places) > most:
            most = count_kept(ways, places)
            best = places
    return best


def best_row(ways, each):
    """The places that are the best, in order of turns."""
    return best_from(ways, each, first_front(ways))


def greatest_first(ways, each):
    """The places that are the greatest first, in order of turns."""
    places = []
    front = first_front(ways)
    while len(front) > 0:
        chosen = sorted(front, key=lambda p: (-ways.sizes[p], p))[:each]
        places.extend(chosen)
        front = front_behind(ways, front, chosen)
    return places
