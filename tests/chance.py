"""Lines of calls drawn by chance, the same ones at every run."""

import random

from lines import LARGEST

FULL_LINE = 400
PLAIN = ("drop", "turn", "again", "burns", "saved", "safe")
WITH_PLACE = ("join", "fire", "save")


def drawn_call(chance):
    """One call other than begin, mostly with a place that may be there."""
    name = chance.choice(PLAIN + WITH_PLACE + ("save", "save", "turn", "join", "each"))
    if name in WITH_PLACE:
        return (name, chance.choice(list(range(13)) * 4 + [13, LARGEST]))
    if name == "each":
        return (name, chance.choice([0, 1, 2, 2, 3, LARGEST]))
    return name


def drawn_line(seed):
    """A line that builds a tree, plays in it, and may begin anew."""
    chance = random.Random(seed)
    line = [drawn_call(chance) for turn in range(chance.randrange(3))]
    while len(line) < FULL_LINE:
        line.append("begin")
        for places in range(1, chance.randrange(1, 14)):
            line.append(("join", chance.randrange(places)))
        line.extend([drawn_call(chance) for turn in range(chance.randrange(10, 120))])
    return line[:FULL_LINE]
