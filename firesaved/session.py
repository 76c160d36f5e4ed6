"""A tree of places with a fire in it: the calls that build it, and those that play its turns.

Each call is a function of the session, and of one number where the call has one. It gives back
the list of what is answered: a refusal stands alone in it.
"""

NO_SUCH_PLACE = -2
ONLY_ONE = -6
UNDER_WAY = -16
ALREADY_SO = -17
OUT_OF_RANGE = -22
TOO_MANY = -28
IT_BURNS = -33

MOST_PLACES = 12


class Session:
    """What one object holds; it has no place at all until a begin."""

    def __init__(self):
        # To which place each one was joined, by its number; the first was joined to none.
        self.joined = []
        self.origin = 0
        self.each = 1
        # How many were saved in the turn that goes on now.
        self.used = 0
        # Rising.
        self.burning = []
        # In the order in which they were saved.
        self.saved = []


def put_fire_back(session):
    """The fire is at its beginning, and nothing is saved."""
    session.burning = [session.origin]
    session.saved = []
    session.used = 0


def is_place(session, p):
    """Whether there is such a place."""
    return p < len(session.joined)


def is_under_way(session):
    """Whether more burns than where the fire begins, or something is saved."""
    return len(session.burning) > 1 or len(session.saved) > 0


def catches(session, p, burning):
    """Whether p is joined with what is burning, and not saved from it."""
    if p in session.saved:
        return False
    return any([session.joined[p] == q or session.joined[q] == p for q in burning])


def gone_on(session, burning):
    """All that burns once the fire has gone on from what is burning, rising."""
    return [p for p in range(len(session.joined)) if p in burning or catches(session, p, burning)]


def counted(places):
    """How many places there are, then these."""
    return [len(places)] + places


def begin(session):
    """One place, which burns; one is saved a turn. A later begin does away with all there was."""
    session.joined = [None]
    session.origin = 0
    session.each = 1
    put_fire_back(session)
    return [0]


def join(session, p):
    """One place more, joined to p: its number."""
    if not is_place(session, p):
        return [NO_SUCH_PLACE]
    if is_under_way(session):
        return [UNDER_WAY]
    if len(session.joined) == MOST_PLACES:
        return [TOO_MANY]
    session.joined.append(p)
    return [len(session.joined) - 1]


def drop(session):
    """The last place is gone: how many there are."""
    if is_under_way(session):
        return [UNDER_WAY]
    if len(session.joined) == 1:
        return [ONLY_ONE]
    if session.origin == len(session.joined) - 1:
        return [ALREADY_SO]
    session.joined.pop()
    return [len(session.joined)]


def fire(session, p):
    """The fire begins at p, and all is as at its beginning: where it began until now."""
    if not is_place(session, p):
        return [NO_SUCH_PLACE]
    before = session.origin
    session.origin = p
    put_fire_back(session)
    return [before]


def each(session, n):
    """So many are saved a turn, and all is as at the fire's beginning: how many it was."""
    if n not in (1, 2):
        return [OUT_OF_RANGE]
    before = session.each
    session.each = n
    put_fire_back(session)
    return [before]


def save(session, p):
    """The place p is saved: how many are, in all the turns."""
    if not is_place(session, p):
        return [NO_SUCH_PLACE]
    if p in session.burning:
        return [IT_BURNS]
    if p in session.saved:
        return [ALREADY_SO]
    if session.used == session.each:
        return [TOO_MANY]
    session.saved.append(p)
    session.used += 1
    return [len(session.saved)]


def turn(session):
    """The fire goes on: how many more burn, then how many burn."""
    before = len(session.burning)
    session.burning = gone_on(session, session.burning)
    session.used = 0
    return [len(session.burning) - before, len(session.burning)]


def again(session):
    """The fire is put back to its beginning: how many burned, then how many were saved."""
    before = [len(session.burning), len(session.saved)]
    put_fire_back(session)
    return before


def burns(session):
    """How many burn, then these, rising."""
    return counted(session.burning)


def saved(session):
    """How many are saved, then these, in order."""
    return counted(session.saved)


def safe(session):
    """How many never burn if nothing more is saved, then these, rising."""
    burning = session.burning
    more = gone_on(session, burning)
    while len(more) > len(burning):
        burning = more
        more = gone_on(session, burning)
    return counted([p for p in range(len(session.joined)) if p not in burning])


def state(session):
    """How many places, where the fire begins, how many a turn, in this one; then the joins."""
    return [len(session.joined), session.origin, session.each, session.used] + session.joined[1:]


# By the calls' numbers: those that are made with nothing, and those made with one number.
PLAIN_CALLS = {0: begin, 2: drop, 6: turn, 7: again, 8: burns, 9: saved, 10: safe, 21: state}
NUMBER_CALLS = {1: join, 3: fire, 4: each, 5: save}
