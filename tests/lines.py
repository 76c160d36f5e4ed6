"""Lines of calls written by name, for the tests."""

from firesaved import tree

NUMBERS = {
    "begin": 0, "join": 1, "drop": 2, "fire": 3, "each": 4, "save": 5, "turn": 6, "again": 7,
    "burns": 8, "saved": 9, "safe": 10, "best": 11, "greedy": 12, "run": 13, "size": 14,
    "deep": 15, "level": 16, "kept": 17, "worst": 18, "from": 19, "mores": 20, "state": 21,
}
LARGEST = 4294967295


def named(call):
    """The name of a call."""
    return call[0] if isinstance(call, tuple) else call


def coded(line):
    """The line as it is handed in: a call is its name, or its name with its number or row."""
    calls = []
    for call in line:
        name, given = call if isinstance(call, tuple) else (call, None)
        calls.append(NUMBERS[name])
        if isinstance(given, list):
            calls.append(len(given))
            calls.extend(given)
        elif given is not None:
            calls.append(given)
    return calls


def parted(told):
    """What is answered, call by call."""
    answers = []
    at = 0
    while at < len(told):
        answers.append(told[at + 1:at + 1 + told[at]])
        at += 1 + told[at]
    return answers


def answered(line):
    """What each call of the line answers."""
    return parted(tree.answers(coded(line)))


def built(joins):
    """The calls that begin, and join one place more to each of these."""
    return ["begin"] + [("join", p) for p in joins]


def last_answers(joins, line):
    """What the calls of the line answer behind those that build the tree."""
    return answered(built(joins) + line)[len(joins) + 1:]


ROW_OF_FOUR = [0, 1, 2]
ROW_OF_TWELVE = list(range(11))
STAR_OF_FIVE = [0, 0, 0, 0]

# 0 is joined with 1 and 2; 1 with 3 and 4; 2 with 5; 5 with 6.
BRANCHED = [0, 0, 1, 1, 2, 5]

# The greatest part keeps fewer here: 1, 3, 4 and 5 lie in a row, 2 has 6 and 7 behind it.
MISLED = [0, 0, 1, 3, 4, 2, 2]

# All of the fire that can be asked, for telling whether anything changed.
LOOKS = ["burns", "saved", "safe"]
ALL_LOOKS = LOOKS + ["state"]

# A call of each that asks only: answered, and refused where it can be.
QUESTIONS = ["best", "greedy", "worst", "from", "mores", "state", "burns", "saved", "safe",
             ("run", []), ("run", [0]), ("run", [1]), ("run", [4, 5]), ("run", [12]), ("run", [1] * 14),
             ("kept", []), ("kept", [0, 1, 1]), ("kept", [12]), ("kept", [0] * 13),
             ("size", 0), ("size", 2), ("size", 12), ("deep", 0), ("deep", 2), ("deep", LARGEST),
             ("level", 0), ("level", 1), ("level", LARGEST)]
