"""The calls that ask what can be kept, and how the tree lies around the fire's beginning.

They are made and answer as those of the session do, and change nothing in it: each tells of a fire from
its beginning on, however far it is now.
"""

from firesaved.choosing import best_row, count_kept, greatest_first
from firesaved.session import IT_BURNS, MOST_PLACES, NO_SUCH_PLACE, OUT_OF_RANGE, Session
from firesaved.session import counted, is_place, put_fire_back, safe, save, turn
from firesaved.ways import count_beyond, ways_to


def ways_now(session):
    """The ways to where the fire begins."""
    return ways_to(session.joined, session.origin)


def are_in_range(session, places):
    """Whether a row or a set may be told: all are there, and not too many."""
    return len(places) <= MOST_PLACES and all([is_place(session, p) for p in places])


def at_beginning(session):
    """Another session with the same places, its fire at the same beginning."""
    trial = Session()
    trial.joined = list(session.joined)
    trial.origin = session.origin
    trial.each = session.each
    put_fire_back(trial)
    return trial


def most_kept(session, origin, each):
    """How many are kept by the best, with the fire's beginning there and so many saved a turn."""
    ways = ways_to(session.joined, origin)
    return count_kept(ways, best_row(ways, each))


def most_by_origin(session):
    """Of each place how many are kept by the best, did the fire begin there."""
    return [most_kept(session, p, session.each) for p in range(len(session.joined))]


def best(session):
    """How many are kept by the best, then these, in order of turns."""
    ways = ways_now(session)
    places = best_row(ways, session.each)
    return [count_kept(ways, places)] + places


def greedy(session):
    """How many are kept by the greatest first, then these, in order of turns."""
    ways = ways_now(session)
    places = greatest_first(ways, session.each)
    return [count_kept(ways, places)] + places


def run(session, row):
    """How many don't burn in the end when these are saved in order, then how many do."""
    if not are_in_range(session, row):
        return [OUT_OF_RANGE]
    trial = at_beginning(session)
    for p in row:
        if trial.used == trial.each:
            turn(trial)
        if save(trial, p)[0] < 0:
            return [IT_BURNS]
    unburnt = safe(trial)[0]
    return [unburnt, len(session.joined) - unburnt]


def size(session, p):
    """How many the place's part has."""
    if not is_place(session, p):
        return [NO_SUCH_PLACE]
    return [ways_now(session).sizes[p]]


def deep(session, p):
    """How deep the place is."""
    if not is_place(session, p):
        return [NO_SUCH_PLACE]
    return [ways_now(session).depths[p]]


def level(session, n):
    """How many are so deep, then these, rising."""
    depths = ways_now(session).depths
    return counted([p for p in range(len(depths)) if depths[p] == n])


def kept(session, places):
    """How many are kept by these."""
    if not are_in_range(session, places):
        return [OUT_OF_RANGE]
    return [count_beyond(ways_now(session), places)]


def worst(session):
    """The least that the best keeps, wherever the fire began, then where that is, rising."""
    most = most_by_origin(session)
    least = min(most)
    return [least] + [p for p in range(len(most)) if most[p] == least]


def from_all(session):
    """How many places, then of each how many are kept by the best, did the fire begin there."""
    return counted(most_by_origin(session))


def mores(session):
    """2, then how many are kept by the best with one saved a turn, with two."""
    return counted([most_kept(session, session.origin, each) for each in (1, 2)])


# By the calls' numbers: those that are made with nothing, with one number, and with a row or a set.
PLAIN_QUESTIONS = {11: best, 12: greedy, 18: worst, 19: from_all, 20: mores}
NUMBER_QUESTIONS = {14: size, 15: deep, 16: level}
ROW_QUESTIONS = {13: run, 17: kept}
