"""What holds on lines of all the calls drawn by chance (b to f), and a second reckoning of them."""

import unittest

from chance import drawn_line
from lines import QUESTIONS, answered, named
from reckoned import Reckoned

SEEDS = range(60)
ASKING = {named(question) for question in QUESTIONS}


class Holds(unittest.TestCase):
    def test_a_second_reckoning_answers_alike(self):
        for seed in SEEDS:
            line = drawn_line(seed)
            reckoned = Reckoned()
            self.assertEqual(answered(line), [reckoned.answer(call) for call in line], seed)

    def test_every_refusal_comes_up(self):
        firsts = {answer[0] for seed in SEEDS for answer in answered(drawn_line(seed))}
        self.assertEqual({first for first in firsts if first < 0}, {-2, -6, -11, -16, -17, -22, -28, -33})

    def test_what_is_refused_changes_nothing(self):
        for seed in SEEDS:
            line = drawn_line(seed)
            answers = answered(line)
            taken = [at for at in range(len(line)) if answers[at][0] >= 0]
            self.assertEqual(answered([line[at] for at in taken]), [answers[at] for at in taken], seed)

    def test_asking_changes_nothing(self):
        for seed in SEEDS:
            line = drawn_line(seed)
            answers = answered(line)
            moves = [at for at in range(len(line)) if named(line[at]) not in ASKING]
            self.assertEqual(answered([line[at] for at in moves]), [answers[at] for at in moves], seed)

    def test_asking_all_between_all_the_others_changes_nothing(self):
        for seed in SEEDS:
            line = drawn_line(seed)[:12]
            asked = [call for move in line for call in [move] + QUESTIONS]
            self.assertEqual(answered(asked)[::len(QUESTIONS) + 1], answered(line), seed)

    def test_what_burns_stays_so_and_what_is_safe_never_burns(self):
        for seed in SEEDS:
            line = [looked for call in drawn_line(seed)[:130] for looked in (call, "burns", "safe")]
            answers = answered(line)
            for at in range(3, len(line), 3):
                if named(line[at]) in ("turn", "save") and answers[at][0] >= 0:
                    burning_before, safe_before = set(answers[at - 2][1:]), set(answers[at - 1][1:])
                    burning, safe = set(answers[at + 1][1:]), set(answers[at + 2][1:])
                    self.assertLessEqual(burning_before, burning, seed)
                    self.assertLessEqual(safe_before, safe, seed)
                    self.assertFalse(burning & safe, seed)


if __name__ == "__main__":
    unittest.main()
