"""What holds (c, e and f) on lines drawn by chance, and a second reckoning of the same promises."""

import unittest

from chance import drawn_line
from lines import answered

SEEDS = range(60)


class Reckoned:
    """The calls reckoned by the ways in the tree, not by going on from what burns."""

    def __init__(self):
        self.ways_up = None

    def answer(self, call):
        name, given = call if isinstance(call, tuple) else (call, None)
        if name == "begin":
            self.ways_up = [[0]]
            self.origin, self.most = 0, 1
            self.calm()
            return [0]
        if self.ways_up is None:
            return [-11]
        method = getattr(self, name)
        return method() if given is None else method(given)

    def calm(self):
        # For each saved place, the turns that had ended when it was saved.
        self.turns, self.when = 0, {}

    def places(self):
        return range(len(self.ways_up))

    def way(self, p):
        """The places from p to where the fire begins, both of them too."""
        up, over = self.ways_up[p], self.ways_up[self.origin]
        shared = max((place for place in up if place in over))
        return up[:up.index(shared) + 1] + over[:over.index(shared)][::-1]

    def is_beyond_saved(self, p):
        return any(place in self.when for place in self.way(p))

    def burning(self):
        return [p for p in self.places()
                if len(self.way(p)) - 1 <= self.turns and not self.is_beyond_saved(p)]

    def under_way(self):
        return len(self.burning()) > 1 or bool(self.when)

    def join(self, p):
        if p not in self.places():
            return [-2]
        if self.under_way():
            return [-16]
        if len(self.ways_up) == 12:
            return [-28]
        self.ways_up.append([len(self.ways_up)] + self.ways_up[p])
        self.calm()
        return [len(self.ways_up) - 1]

    def drop(self):
        if self.under_way():
            return [-16]
        if len(self.ways_up) == 1:
            return [-6]
        if self.origin == len(self.ways_up) - 1:
            return [-17]
        self.ways_up = self.ways_up[:-1]
        self.calm()
        return [len(self.ways_up)]

    def fire(self, p):
        if p not in self.places():
            return [-2]
        before, self.origin = self.origin, p
        self.calm()
        return [before]

    def each(self, n):
        if n < 1 or n > 2:
            return [-22]
        before, self.most = self.most, n
        self.calm()
        return [before]

    def save(self, p):
        if p not in self.places():
            return [-2]
        if p in self.burning():
            return [-33]
        if p in self.when:
            return [-17]
        if list(self.when.values()).count(self.turns) == self.most:
            return [-28]
        self.when[p] = self.turns
        return [len(self.when)]

    def turn(self):
        before = self.burning()
        self.turns += 1
        return [len(self.burning()) - len(before), len(self.burning())]

    def again(self):
        before = [len(self.burning()), len(self.when)]
        self.calm()
        return before

    def burns(self):
        return [len(self.burning())] + self.burning()

    def saved(self):
        return [len(self.when)] + list(self.when)

    def safe(self):
        kept = [p for p in self.places() if self.is_beyond_saved(p)]
        return [len(kept)] + kept


class Holds(unittest.TestCase):
    def test_a_second_reckoning_answers_alike(self):
        for seed in SEEDS:
            line = drawn_line(seed)
            reckoned = Reckoned()
            self.assertEqual(answered(line), [reckoned.answer(call) for call in line], seed)

    def test_every_refusal_comes_up(self):
        firsts = {answer[0] for seed in SEEDS for answer in answered(drawn_line(seed))}
        self.assertEqual({first for first in firsts if first < 0}, {-2, -6, -11, -16, -17, -22, -28, -33})

    def test_what_is_refused_changes_nothing(self):
        for seed in SEEDS:
            line = drawn_line(seed)
            answers = answered(line)
            taken = [at for at in range(len(line)) if answers[at][0] >= 0]
            self.assertEqual(answered([line[at] for at in taken]), [answers[at] for at in taken], seed)

    def test_what_burns_stays_so_and_what_is_safe_never_burns(self):
        for seed in SEEDS:
            line = [looked for call in drawn_line(seed)[:130] for looked in (call, "burns", "safe")]
            answers = answered(line)
            for at in range(3, len(line), 3):
                name = line[at][0] if isinstance(line[at], tuple) else line[at]
                if name in ("turn", "save") and answers[at][0] >= 0:
                    burning_before, safe_before = set(answers[at - 2][1:]), set(answers[at - 1][1:])
                    burning, safe = set(answers[at + 1][1:]), set(answers[at + 2][1:])
                    self.assertLessEqual(burning_before, burning, seed)
                    self.assertLessEqual(safe_before, safe, seed)
                    self.assertFalse(burning & safe, seed)


if __name__ == "__main__":
    unittest.main()
