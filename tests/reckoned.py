"""A second reckoning of all the calls, for the tests: by the ways in the tree and by going through
all that could be chosen, where the program goes on from what burns and chooses turn by turn."""

import functools
import itertools


def way(ways_up, p, origin):
    """The places from p to where the fire begins, both of them too."""
    up, over = ways_up[p], ways_up[origin]
    shared = max(place for place in up if place in over)
    return up[:up.index(shared) + 1] + over[:over.index(shared)][::-1]


def all_choices(depths, parts, each, depth=1, kept=frozenset()):
    """All that can be chosen from this depth on, a set for each turn, and what is kept with it."""
    there = [p for p in range(len(depths)) if depths[p] == depth and p not in kept]
    if not there:
        yield [], kept
        return
    for many in range(each + 1):
        for chosen in itertools.combinations(there, many):
            kept_then = kept.union(*[parts[p] for p in chosen])
            for later, kept_last in all_choices(depths, parts, each, depth + 1, kept_then):
                yield [set(chosen)] + later, kept_last


def comes_first(some, others):
    """Whether of two choices that keep as many the one comes first."""
    for chosen, other in itertools.zip_longest(some, others, fillvalue=set()):
        if chosen != other:
            return min(chosen ^ other) in chosen
    return False


@functools.cache
def reckoned_best(ways_up, origin, each):
    """How many are kept by the best, then these."""
    ways = [way(ways_up, p, origin) for p in range(len(ways_up))]
    parts = [{q for q in range(len(ways)) if p in ways[q]} for p in range(len(ways))]
    best, most = [], -1
    for choice, kept in all_choices([len(places) - 1 for places in ways], parts, each):
        if len(kept) > most or (len(kept) == most and comes_first(choice, best)):
            best, most = choice, len(kept)
    return [most] + [p for chosen in best for p in sorted(chosen)]


class Reckoned:
    """One object; its methods are the calls."""

    def __init__(self):
        self.ways_up = None

    def answer(self, call):
        name, given = call if isinstance(call, tuple) else (call, None)
        if name == "begin":
            self.ways_up = [[0]]
            self.origin, self.most = 0, 1
            self.calm()
            return [0]
        if self.ways_up is None:
            return [-11]
        method = getattr(self, "from_all" if name == "from" else name)
        return method() if given is None else method(given)

    def calm(self):
        # For each saved place, the turns that had ended when it was saved.
        self.turns, self.when = 0, {}

    def places(self):
        return range(len(self.ways_up))

    def way(self, p):
        return way(self.ways_up, p, self.origin)

    def part(self, p):
        return [q for q in self.places() if p in self.way(q)]

    def is_beyond(self, p, places):
        return any(place in places for place in self.way(p))

    def burning(self):
        return [p for p in self.places()
                if len(self.way(p)) - 1 <= self.turns and not self.is_beyond(p, self.when)]

    def under_way(self):
        return len(self.burning()) > 1 or bool(self.when)

    def join(self, p):
        if p not in self.places():
            return [-2]
        if self.under_way():
            return [-16]
        if len(self.ways_up) == 12:
            return [-28]
        self.ways_up = self.ways_up + [[len(self.ways_up)] + self.ways_up[p]]
        self.calm()
        return [len(self.ways_up) - 1]

    def drop(self):
        if self.under_way():
            return [-16]
        if len(self.ways_up) == 1:
            return [-6]
        if self.origin == len(self.ways_up) - 1:
            return [-17]
        self.ways_up = self.ways_up[:-1]
        self.calm()
        return [len(self.ways_up)]

    def fire(self, p):
        if p not in self.places():
            return [-2]
        before, self.origin = self.origin, p
        self.calm()
        return [before]

    def each(self, n):
        if n < 1 or n > 2:
            return [-22]
        before, self.most = self.most, n
        self.calm()
        return [before]

    def in_this_turn(self):
        return list(self.when.values()).count(self.turns)

    def save(self, p):
        if p not in self.places():
            return [-2]
        if p in self.burning():
            return [-33]
        if p in self.when:
            return [-17]
        if self.in_this_turn() == self.most:
            return [-28]
        self.when[p] = self.turns
        return [len(self.when)]

    def turn(self):
        before = self.burning()
        self.turns += 1
        return [len(self.burning()) - len(before), len(self.burning())]

    def again(self):
        before = [len(self.burning()), len(self.when)]
        self.calm()
        return before

    def burns(self):
        return [len(self.burning())] + self.burning()

    def saved(self):
        return [len(self.when)] + list(self.when)

    def safe(self):
        kept = [p for p in self.places() if self.is_beyond(p, self.when)]
        return [len(kept)] + kept

    def most_kept(self, origin, each):
        return reckoned_best(tuple(map(tuple, self.ways_up)), origin, each)[0]

    def best(self):
        return reckoned_best(tuple(map(tuple, self.ways_up)), self.origin, self.most)

    def greedy(self):
        places, kept = [], set()
        for depth in range(1, 12):
            there = [p for p in self.places() if len(self.way(p)) - 1 == depth and p not in kept]
            there.sort(key=lambda p: (len(self.part(p)), -p), reverse=True)
            places += there[:self.most]
            kept.update(*[self.part(p) for p in there[:self.most]])
        return [len(kept)] + places

    def told_too_many(self, places):
        return len(places) > 12 or any(p not in self.places() for p in places)

    def run(self, row):
        if self.told_too_many(row):
            return [-22]
        when = {}
        for at, p in enumerate(row):
            turns = at // self.most
            burns = len(self.way(p)) - 1 <= turns and not self.is_beyond(p, when)
            if burns or p in when:
                return [-33]
            when[p] = turns
        kept = [p for p in self.places() if self.is_beyond(p, when)]
        return [len(kept), len(self.ways_up) - len(kept)]

    def kept(self, places):
        if self.told_too_many(places):
            return [-22]
        return [sum(self.is_beyond(p, places) for p in self.places())]

    def size(self, p):
        return [len(self.part(p))] if p in self.places() else [-2]

    def deep(self, p):
        return [len(self.way(p)) - 1] if p in self.places() else [-2]

    def level(self, n):
        there = [p for p in self.places() if len(self.way(p)) - 1 == n]
        return [len(there)] + there

    def from_all(self):
        return [len(self.ways_up)] + [self.most_kept(p, self.most) for p in self.places()]

    def worst(self):
        kept = self.from_all()[1:]
        return [min(kept)] + [p for p in self.places() if kept[p] == min(kept)]

    def mores(self):
        return [2, self.most_kept(self.origin, 1), self.most_kept(self.origin, 2)]

    def state(self):
        return [len(self.ways_up), self.origin, self.most, self.in_this_turn()] + [
            up[1] for up in self.ways_up[1:]]
