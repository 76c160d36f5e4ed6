"""The interface: how calls are handed in as numbers, and how what is answered is given back."""

import contextlib
import inspect
import io
import unittest

from chance import FULL_LINE, drawn_line
from firesaved.tree import answers
from lines import LARGEST, coded

# Each call as it is handed in, and what it answers, ahead of that how many numbers.
TOLD_BY_CALL = [
    ([0], [1, 0]),
    ([1, 0], [1, 1]),
    ([1, 1], [1, 2]),
    ([5, 2], [1, 1]),
    ([5, 1], [1, -28]),
    ([6], [2, 1, 2]),
    ([8], [3, 2, 0, 1]),
    ([9], [2, 1, 2]),
    ([10], [2, 1, 2]),
    ([7], [2, 2, 1]),
    ([10], [1, 0]),
    ([2], [1, 2]),
    ([3, 1], [1, 0]),
    ([4, 2], [1, 1]),
    ([5, 9], [1, -2]),
    ([11], [2, 1, 0]),
    ([12], [2, 1, 0]),
    ([13, 1, 0], [2, 1, 1]),
    ([13, 0], [2, 0, 2]),
    ([13, 2, 0, 2], [1, -22]),
    ([13, 1, 1], [1, -33]),
    ([14, 0], [1, 1]),
    ([15, 0], [1, 1]),
    ([15, 2], [1, -2]),
    ([16, 1], [2, 1, 0]),
    ([16, 2], [1, 0]),
    ([17, 3, 0, 1, 0], [1, 2]),
    ([17, 0], [1, 0]),
    ([17, 14] + [0] * 14, [1, -22]),
    ([18], [3, 1, 0, 1]),
    ([19], [3, 2, 1, 1]),
    ([20], [3, 2, 1, 1]),
    ([21], [5, 2, 1, 2, 0, 0]),
]
CALLS = [number for call, told in TOLD_BY_CALL for number in call]
TOLD = [number for call, told in TOLD_BY_CALL for number in told]


class OnlyRead(list):
    """A list that may be read, but not changed."""

    def refuse(self, *given):
        raise AssertionError("what is handed in is not changed")

    append = clear = extend = insert = pop = remove = reverse = sort = refuse
    __setitem__ = __delitem__ = __iadd__ = __imul__ = refuse


class Interface(unittest.TestCase):
    def test_numbers_in_and_numbers_out(self):
        self.assertEqual(answers(list(CALLS)), TOLD)

    def test_a_refusal_is_its_number_alone(self):
        self.assertEqual(answers([6, 0, 2, 3, 1, 4, 0, 5, 0]),
                         [1, -11, 1, 0, 1, -6, 1, -2, 1, -22, 1, -33])

    def test_one_call(self):
        self.assertEqual(answers([0]), [1, 0])
        self.assertEqual(answers([10]), [1, -11])
        self.assertEqual(answers([5, LARGEST]), [1, -11])

    def test_the_argument_is_called_calls(self):
        self.assertEqual(answers(calls=[0, 8]), [1, 0, 2, 1, 0])
        self.assertEqual(list(inspect.signature(answers).parameters), ["calls"])

    def test_plain_whole_numbers_in_a_plain_list(self):
        for seed in range(10):
            told = answers(coded(drawn_line(seed)))
            self.assertIs(type(told), list)
            self.assertEqual({type(number) for number in told}, {int})

    def test_what_is_handed_in_is_as_it_was(self):
        for seed in range(10):
            calls = coded(drawn_line(seed))
            before = list(calls)
            answers(calls)
            self.assertEqual(calls, before)

    def test_what_is_handed_in_is_not_changed_for_a_while_either(self):
        calls = coded(drawn_line(1))
        self.assertEqual(answers(OnlyRead(calls)), answers(calls))

    def test_a_second_time_is_as_the_first(self):
        lines = [coded(drawn_line(seed)) for seed in range(10)]
        first = [answers(calls) for calls in lines]
        self.assertEqual([answers(calls) for calls in reversed(lines)], first[::-1])
        self.assertEqual(answers([8]), [1, -11])

    def test_what_was_given_back_is_not_used_again(self):
        first = answers(CALLS)
        kept = list(first)
        first.clear()
        self.assertEqual(answers(CALLS), kept)

    def test_four_hundred_calls(self):
        self.assertEqual(answers([0] + [6] * (FULL_LINE - 1)), [1, 0] + [2, 0, 1] * (FULL_LINE - 1))

    def test_the_longest_line(self):
        calls = [0, 1, 0] + [13, 14] + [1] * 14 + ([17, 12] + [1] * 12 + [17, 14] + [0] * 14) * 198 + [13, 1, 1]
        self.assertEqual(answers(calls), [1, 0, 1, 1, 1, -22] + [1, 1, 1, -22] * 198 + [2, 1, 1])

    def test_what_stands_in_a_row_is_no_call(self):
        self.assertEqual(answers([0, 13, 3, 0, 6, 8, 17, 2, 0, 0, 16, 13, 21]),
                         [1, 0, 1, -22, 1, 1, 1, 0, 4, 1, 0, 1, 0])

    def test_nothing_is_printed(self):
        out, err = io.StringIO(), io.StringIO()
        with contextlib.redirect_stdout(out), contextlib.redirect_stderr(err):
            answers(coded(drawn_line(2)))
        self.assertEqual(out.getvalue() + err.getvalue(), "")


if __name__ == "__main__":
    unittest.main()
