"""Promise 1's state, and of promise 3 run, kept, size, deep and level."""

import unittest

from lines import (ALL_LOOKS, BRANCHED, LARGEST, QUESTIONS, ROW_OF_FOUR, ROW_OF_TWELVE, STAR_OF_FIVE,
                   answered, last_answers)

# The fire in the middle of a turn: 0 and 2 burn, and 1, 4 and 5 are saved, one of them in this turn.
UNDER_WAY = [("each", 2), ("save", 1), ("save", 4), "turn", ("save", 5)]


def runs(joins, rows, ahead=()):
    """What running each of the rows answers."""
    return last_answers(joins, list(ahead) + [("run", row) for row in rows])[len(ahead):]


def keeps(joins, sets, ahead=()):
    """How many each of the sets keeps."""
    return last_answers(joins, list(ahead) + [("kept", places) for places in sets])[len(ahead):]


class Run(unittest.TestCase):
    def test_how_many_do_not_burn_then_how_many_do(self):
        self.assertEqual(runs(ROW_OF_FOUR, [[1], [2], [3]]), [[3, 1], [2, 2], [1, 3]])
        self.assertEqual(runs(BRANCHED, [[1], [1, 5], [2, 3], [5, 3], [6, 4]]),
                         [[3, 4], [5, 2], [4, 3], [3, 4], [2, 5]])

    def test_nothing_saved(self):
        self.assertEqual(runs(BRANCHED, [[]]), [[0, 7]])
        self.assertEqual(runs([], [[]]), [[0, 1]])

    def test_one_place(self):
        self.assertEqual(runs([], [[0], [1], [0] * 12, [0] * 13]), [[-33], [-22], [-33], [-22]])

    def test_a_row_from_its_end_and_from_its_middle(self):
        self.assertEqual(runs(ROW_OF_FOUR, [[2], [1], [1, 0]], [("fire", 3)]), [[3, 1], [2, 2], [2, 2]])
        self.assertEqual(runs(ROW_OF_FOUR, [[2], [0], [0, 3], [2, 0]], [("fire", 1)]),
                         [[2, 2], [1, 3], [2, 2], [-33]])

    def test_a_star(self):
        self.assertEqual(runs(STAR_OF_FIVE, [[1], [4], [1, 2]]), [[1, 4], [1, 4], [-33]])
        self.assertEqual(runs(STAR_OF_FIVE, [[0], [4], [4, 1], [4, 1, 2]], [("fire", 3)]),
                         [[4, 1], [1, 4], [2, 3], [-33]])

    def test_two_a_turn(self):
        rows = [[1], [1, 2], [2, 1], [1, 2, 3], [3, 4, 5], [3, 4, 5, 6], [3, 6, 4, 5], [3, 4, 2], [3, 4, 5, 6, 1]]
        self.assertEqual(runs(BRANCHED, rows, [("each", 2)]),
                         [[3, 4], [6, 1], [6, 1], [6, 1], [4, 3], [4, 3], [4, 3], [-33], [-33]])

    def test_beyond_what_is_saved(self):
        self.assertEqual(runs(ROW_OF_FOUR, [[1, 2], [1, 3, 2], [1, 2, 3]]), [[3, 1]] * 3)

    def test_ahead_of_what_is_saved(self):
        self.assertEqual(runs(ROW_OF_FOUR, [[3, 2], [2, 3]]), [[2, 2]] * 2)

    def test_a_place_that_burns_this_turn(self):
        self.assertEqual(runs(ROW_OF_TWELVE, [[11, 10, 3], [11, 10, 2], [11, 10, 9, 3], [11, 10, 9, 4]]),
                         [[9, 3], [-33], [-33], [8, 4]])
        self.assertEqual(runs(ROW_OF_FOUR, [[3, 1]], [("each", 2)]), [[3, 1]])
        self.assertEqual(runs(ROW_OF_FOUR, [[3, 1]]), [[-33]])

    def test_it_burns_from_the_beginning_on(self):
        self.assertEqual(runs(BRANCHED, [[0], [1, 0]]), [[-33]] * 2)
        self.assertEqual(runs(BRANCHED, [[4], [0]], [("fire", 4)]), [[-33], [4, 3]])

    def test_saved_already(self):
        self.assertEqual(runs(ROW_OF_FOUR, [[1, 1], [3, 2, 3], [2, 3, 2]]), [[-33]] * 3)
        self.assertEqual(runs(ROW_OF_FOUR, [[1, 1], [2, 3, 2]], [("each", 2)]), [[-33]] * 2)

    def test_one_that_is_not_there(self):
        self.assertEqual(runs(ROW_OF_FOUR, [[4], [LARGEST], [1, 4], [4, 1]]), [[-22]] * 4)

    def test_more_than_twelve(self):
        self.assertEqual(runs(ROW_OF_TWELVE, [list(range(1, 12)) + [1]]), [[-33]])
        self.assertEqual(runs(ROW_OF_TWELVE, [list(range(1, 12)) + [1, 2]]), [[-22]])
        self.assertEqual(runs(ROW_OF_TWELVE, [list(range(1, 12)) + [1, 2, 3]]), [[-22]])

    def test_as_long_as_it_may_be(self):
        self.assertEqual(runs(ROW_OF_TWELVE, [list(range(1, 12))]), [[11, 1]])
        self.assertEqual(runs(ROW_OF_TWELVE, [list(range(11, 0, -1))]), [[-33]])
        self.assertEqual(runs(ROW_OF_TWELVE, [[11, 1, 10, 9, 8, 7, 6, 5, 4, 3, 2]], [("each", 2)]), [[11, 1]])

    def test_out_of_range_stands_ahead_of_it_burns(self):
        self.assertEqual(runs(ROW_OF_FOUR, [[0, 4], [1, 1, 4], [0] * 13, [0] * 14, [1] * 13]), [[-22]] * 5)

    def test_what_burns_and_is_saved_now_does_not_matter(self):
        rows = [[1], [1, 4], [2, 3], [5, 4], [0], [6, 6], [7]]
        self.assertEqual(runs(BRANCHED, rows, UNDER_WAY), runs(BRANCHED, rows, [("each", 2)]))
        self.assertEqual(runs(BRANCHED, [[1, 4], [2, 3]], UNDER_WAY), [[3, 4], [4, 3]])


class Kept(unittest.TestCase):
    def test_all_that_lies_beyond_one_of_it(self):
        self.assertEqual(keeps(BRANCHED, [[1], [2], [3], [5], [6], [1, 2], [3, 5], [6, 4, 3]]),
                         [[3], [3], [1], [2], [1], [6], [3], [3]])

    def test_an_empty_set(self):
        self.assertEqual(keeps(BRANCHED, [[]]), [[0]])
        self.assertEqual(keeps([], [[]]), [[0]])

    def test_one_beyond_another(self):
        self.assertEqual(keeps(BRANCHED, [[1, 3], [3, 1], [2, 5, 6], [6, 2, 4]]), [[3], [3], [3], [4]])

    def test_one_twice(self):
        self.assertEqual(keeps(BRANCHED, [[1, 1], [3, 5, 3], [4] * 12]), [[3], [3], [1]])

    def test_where_the_fire_begins(self):
        self.assertEqual(keeps(BRANCHED, [[0], [0, 3]]), [[7], [7]])
        self.assertEqual(keeps([], [[0], [0] * 12]), [[1], [1]])
        self.assertEqual(keeps(BRANCHED, [[6], [2], [0], [1], [5, 3]], [("fire", 6)]), [[7], [5], [4], [3], [6]])

    def test_twelve_places(self):
        self.assertEqual(keeps(ROW_OF_TWELVE, [list(range(12)), list(range(11, 0, -1)), [11]]), [[12], [11], [1]])
        self.assertEqual(keeps(ROW_OF_TWELVE, [[5], [4], [6], [3, 8]], [("fire", 5)]), [[12], [5], [6], [8]])

    def test_out_of_range(self):
        self.assertEqual(keeps(BRANCHED, [[7], [LARGEST], [1, 7], [7, 1], [0] * 13, [1] * 14, [7] * 14]),
                         [[-22]] * 7)

    def test_how_many_are_saved_a_turn_does_not_matter(self):
        self.assertEqual(keeps(STAR_OF_FIVE, [[1, 2, 3]]), [[3]])
        self.assertEqual(keeps(STAR_OF_FIVE, [[1, 2, 3]], [("each", 2)]), [[3]])

    def test_what_burns_and_is_saved_now_does_not_matter(self):
        self.assertEqual(keeps(BRANCHED, [[2], [0], [6], []], UNDER_WAY), [[3], [7], [1], [0]])


class SizeAndDeep(unittest.TestCase):
    def asked(self, name, joins, places, ahead=()):
        line = list(ahead) + [(name, p) for p in places]
        return [answer[0] for answer in last_answers(joins, line)[len(ahead):]]

    def test_how_many_the_part_has(self):
        self.assertEqual(self.asked("size", BRANCHED, range(7)), [7, 3, 3, 1, 1, 2, 1])
        self.assertEqual(self.asked("size", STAR_OF_FIVE, range(5)), [5, 1, 1, 1, 1])

    def test_the_part_is_told_from_where_the_fire_begins(self):
        self.assertEqual(self.asked("size", BRANCHED, range(7), [("fire", 6)]), [4, 3, 5, 1, 1, 6, 7])
        self.assertEqual(self.asked("size", ROW_OF_FOUR, range(4), [("fire", 3)]), [1, 2, 3, 4])
        self.assertEqual(self.asked("size", ROW_OF_FOUR, range(4), [("fire", 1)]), [1, 4, 2, 1])
        self.assertEqual(self.asked("size", STAR_OF_FIVE, range(5), [("fire", 2)]), [4, 1, 5, 1, 1])

    def test_how_deep(self):
        self.assertEqual(self.asked("deep", BRANCHED, range(7)), [0, 1, 1, 2, 2, 2, 3])
        self.assertEqual(self.asked("deep", ROW_OF_TWELVE, range(12)), list(range(12)))

    def test_depth_is_told_from_where_the_fire_begins(self):
        self.assertEqual(self.asked("deep", BRANCHED, range(7), [("fire", 6)]), [3, 4, 2, 5, 5, 1, 0])
        self.assertEqual(self.asked("deep", ROW_OF_TWELVE, range(12), [("fire", 11)]), list(range(11, -1, -1)))
        self.assertEqual(self.asked("deep", ROW_OF_FOUR, range(4), [("fire", 1)]), [1, 0, 1, 2])

    def test_one_place(self):
        self.assertEqual(self.asked("size", [], [0, 1]), [1, -2])
        self.assertEqual(self.asked("deep", [], [0, 1]), [0, -2])

    def test_no_such_place(self):
        for name in ("size", "deep"):
            self.assertEqual(self.asked(name, BRANCHED, [7, 12, LARGEST]), [-2] * 3)
            self.assertEqual(self.asked(name, ROW_OF_TWELVE, [12, 13, LARGEST]), [-2] * 3)

    def test_a_dropped_place_is_no_more(self):
        self.assertEqual(last_answers(ROW_OF_FOUR, ["drop", ("size", 3), ("deep", 3), ("size", 1), ("deep", 2)]),
                         [[3], [-2], [-2], [2], [2]])

    def test_what_burns_and_is_saved_now_does_not_matter(self):
        self.assertEqual(self.asked("size", BRANCHED, range(7), UNDER_WAY), [7, 3, 3, 1, 1, 2, 1])
        self.assertEqual(self.asked("deep", BRANCHED, range(7), UNDER_WAY), [0, 1, 1, 2, 2, 2, 3])


class Level(unittest.TestCase):
    def levels(self, joins, depths, ahead=()):
        line = list(ahead) + [("level", n) for n in depths]
        return last_answers(joins, line)[len(ahead):]

    def test_how_many_then_these_rising(self):
        self.assertEqual(self.levels(BRANCHED, range(4)), [[1, 0], [2, 1, 2], [3, 3, 4, 5], [1, 6]])
        self.assertEqual(self.levels(STAR_OF_FIVE, [0, 1]), [[1, 0], [4, 1, 2, 3, 4]])

    def test_from_where_the_fire_begins(self):
        self.assertEqual(self.levels(BRANCHED, range(6), [("fire", 5)]),
                         [[1, 5], [2, 2, 6], [1, 0], [1, 1], [2, 3, 4], [0]])
        self.assertEqual(self.levels(ROW_OF_FOUR, range(4), [("fire", 2)]), [[1, 2], [2, 1, 3], [1, 0], [0]])
        self.assertEqual(self.levels([0, 1, 1, 0], range(3), [("fire", 1)]), [[1, 1], [3, 0, 2, 3], [1, 4]])

    def test_a_depth_that_no_place_has(self):
        self.assertEqual(self.levels(BRANCHED, [4, 7, 12, LARGEST]), [[0]] * 4)
        self.assertEqual(self.levels([], [0, 1, LARGEST]), [[1, 0], [0], [0]])

    def test_twelve_places(self):
        self.assertEqual(self.levels(ROW_OF_TWELVE, [11, 12]), [[1, 11], [0]])
        self.assertEqual(self.levels([0] * 11, [1]), [[11] + list(range(1, 12))])

    def test_what_burns_and_is_saved_now_does_not_matter(self):
        self.assertEqual(self.levels(BRANCHED, range(4), UNDER_WAY), [[1, 0], [2, 1, 2], [3, 3, 4, 5], [1, 6]])


class State(unittest.TestCase):
    def test_one_place(self):
        self.assertEqual(last_answers([], ["state"]), [[1, 0, 1, 0]])

    def test_to_which_each_was_joined(self):
        self.assertEqual(last_answers(BRANCHED, ["state"]), [[7, 0, 1, 0, 0, 0, 1, 1, 2, 5]])
        self.assertEqual(last_answers(ROW_OF_TWELVE, ["state"]), [[12, 0, 1, 0] + list(range(11))])

    def test_the_joins_stay_when_the_fire_begins_elsewhere(self):
        self.assertEqual(last_answers(ROW_OF_FOUR, [("fire", 3), "state"]), [[0], [4, 3, 1, 0, 0, 1, 2]])

    def test_how_many_are_saved_a_turn_and_in_this_one(self):
        line = [("each", 2), "state", ("save", 3), "state", ("save", 6), "state", "turn", "state", ("save", 5), "state"]
        self.assertEqual([answer[1:4] for answer in last_answers(BRANCHED, line)[1::2]],
                         [[0, 2, 0], [0, 2, 1], [0, 2, 2], [0, 2, 0], [0, 2, 1]])

    def test_none_in_this_turn_when_the_fire_is_put_back(self):
        for back in ("again", ("fire", 0), ("each", 1)):
            line = [("save", 3), "state", back, "state"]
            self.assertEqual(last_answers(STAR_OF_FIVE, line)[1::2],
                             [[5, 0, 1, 1, 0, 0, 0, 0], [5, 0, 1, 0, 0, 0, 0, 0]], back)

    def test_a_dropped_place_is_no_more(self):
        self.assertEqual(last_answers(BRANCHED, ["drop", "state", ("join", 3), "state"])[1::2],
                         [[6, 0, 1, 0, 0, 0, 1, 1, 2], [7, 0, 1, 0, 0, 0, 1, 1, 2, 3]])

    def test_a_second_begin(self):
        line = [("fire", 3), ("each", 2), ("save", 1), "begin", "state"]
        self.assertEqual(last_answers(BRANCHED, line)[4], [1, 0, 1, 0])

    def test_what_is_refused_leaves_it(self):
        line = [("fire", 2), ("each", 2), ("save", 0), "state", ("join", 9), ("join", 0), "drop", ("fire", 7),
                ("each", 0), ("save", 2), ("save", 0), "state"]
        answers = last_answers(BRANCHED, line)
        self.assertEqual(answers[3], [7, 2, 2, 1, 0, 0, 1, 1, 2, 5])
        self.assertEqual(answers[4:], [[-2], [-16], [-16], [-2], [-22], [-33], [-17], answers[3]])


class Asking(unittest.TestCase):
    def test_a_call_before_begin(self):
        for question in QUESTIONS:
            self.assertEqual(answered([question, "begin", "state"]), [[-11], [0], [1, 0, 1, 0]], question)

    def test_it_changes_nothing_while_a_fire_is_under_way(self):
        looked = [[2, 0, 2], [3, 1, 4, 5], [5, 1, 3, 4, 5, 6], [7, 0, 2, 1, 0, 0, 1, 1, 2, 5]]
        after = [("save", 6), ("save", 3), "turn", "again"]
        for question in QUESTIONS:
            answers = last_answers(BRANCHED, UNDER_WAY + [question] + ALL_LOOKS + after)[len(UNDER_WAY) + 1:]
            self.assertEqual(answers, looked + [[4], [-28], [0, 2], [2, 4]], question)

    def test_it_changes_nothing_at_the_beginning(self):
        looked = [[1, 5], [0], [0], [7, 5, 1, 0, 0, 0, 1, 1, 2, 5]]
        after = [("join", 6), "drop", ("save", 6), ("save", 2)]
        for question in QUESTIONS:
            answers = last_answers(BRANCHED, [("fire", 5), question] + ALL_LOOKS + after)[2:]
            self.assertEqual(answers, looked + [[7], [7], [1], [-28]], question)


if __name__ == "__main__":
    unittest.main()
