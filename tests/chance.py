"""Lines of calls drawn by chance, the same ones at every run."""

import random

from lines import LARGEST

FULL_LINE = 400
PLAIN_MOVES = ("drop", "turn", "again")
PLACE_MOVES = ("join", "fire", "save")
PLAIN_QUESTIONS = ("burns", "saved", "safe", "best", "greedy", "worst", "from", "mores", "state")
PLACE_QUESTIONS = ("size", "deep")


def drawn_place(chance):
    """A place that is there more often than not."""
    return chance.choice(list(range(13)) * 4 + [13, LARGEST])


def drawn_row(chance):
    """A row or a set of places, mostly a short one of places that are there."""
    most = chance.choice([3, 7, 12])
    many = chance.choice([0, 1, 1, 2, 2, 3, 3, 4, 5, 12, 13, 14])
    return [chance.randrange(most) for number in range(many)]


def drawn_move(chance):
    """One call other than begin that may change something."""
    name = chance.choice(PLAIN_MOVES + PLACE_MOVES + ("save", "save", "turn", "join", "each"))
    if name in PLACE_MOVES:
        return (name, drawn_place(chance))
    if name == "each":
        return (name, chance.choice([0, 1, 2, 2, 3, LARGEST]))
    return name


def drawn_question(chance):
    """One call that only asks."""
    name = chance.choice(PLAIN_QUESTIONS + PLACE_QUESTIONS + ("level", "run", "run", "run", "kept", "kept"))
    if name in PLACE_QUESTIONS:
        return (name, drawn_place(chance))
    if name == "level":
        return (name, chance.choice([0, 1, 1, 2, 2, 3, 4, 11, LARGEST]))
    if name in ("run", "kept"):
        return (name, drawn_row(chance))
    return name


def drawn_call(chance):
    """One call other than begin."""
    return drawn_move(chance) if chance.random() < 0.6 else drawn_question(chance)


def drawn_line(seed):
    """A line that builds a tree, plays and asks in it, and may begin anew."""
    chance = random.Random(seed)
    line = [drawn_call(chance) for turn in range(chance.randrange(3))]
    while len(line) < FULL_LINE:
        line.append("begin")
        for places in range(1, chance.randrange(1, 14)):
            line.append(("join", chance.randrange(places)))
        line.extend([drawn_call(chance) for turn in range(chance.randrange(10, 120))])
    return line[:FULL_LINE]
