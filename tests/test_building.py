"""Promise 1: begin, join, drop, fire and each; and what is refused ahead of a begin."""

import unittest

from lines import (BRANCHED, LARGEST, LOOKS, NUMBERS, ROW_OF_FOUR, ROW_OF_TWELVE, STAR_OF_FIVE,
                   answered, last_answers)

GIVEN = {"join": 0, "fire": 0, "each": 1, "save": 0, "size": 0, "deep": 0, "level": 0,
         "run": [0, 1], "kept": []}


class BeforeBegin(unittest.TestCase):
    def test_every_other_call_is_refused(self):
        for name in NUMBERS:
            if name != "begin":
                call = (name, GIVEN[name]) if name in GIVEN else name
                self.assertEqual(answered([call]), [[-11]], name)

    def test_not_begun_stands_ahead_of_all_else_that_is_due(self):
        line = [("join", LARGEST), ("fire", 5), ("each", 3), ("save", 1), ("run", [99] * 14)]
        self.assertEqual(answered(line), [[-11]] * 5)

    def test_the_refused_calls_leave_nothing_for_the_begin(self):
        line = [("join", 0), ("each", 2), ("fire", 0), "begin", "burns", ("each", 1), ("join", 0)]
        self.assertEqual(answered(line)[3:], [[0], [1, 0], [1], [1]])

    def test_rows_ahead_of_a_begin_are_read_to_their_end(self):
        self.assertEqual(answered([("run", [0] * 14), ("kept", []), ("kept", [0]), "begin"]),
                         [[-11], [-11], [-11], [0]])


class Begin(unittest.TestCase):
    def test_one_place_burns(self):
        self.assertEqual(answered(["begin"] + LOOKS), [[0], [1, 0], [0], [0]])

    def test_one_is_saved_a_turn(self):
        self.assertEqual(last_answers(STAR_OF_FIVE, [("save", 1), ("save", 2)]), [[1], [-28]])

    def test_a_second_begin_leaves_one_place(self):
        line = ["begin"] + LOOKS + ["drop", ("fire", 1), ("join", 1), ("join", 0)]
        self.assertEqual(last_answers(BRANCHED, line),
                         [[0], [1, 0], [0], [0], [-6], [-2], [-2], [1]])

    def test_a_second_begin_puts_the_fire_at_the_first_place(self):
        self.assertEqual(last_answers(ROW_OF_FOUR, [("fire", 3), "begin", "burns", ("fire", 0)]),
                         [[0], [0], [1, 0], [0]])

    def test_a_second_begin_puts_back_how_many_are_saved(self):
        line = [("each", 2), "begin", ("join", 0), ("join", 0), ("save", 1), ("save", 2), ("each", 1)]
        self.assertEqual(last_answers([], line), [[1], [0], [1], [2], [1], [-28], [1]])

    def test_a_second_begin_is_let_when_the_fire_is_under_way(self):
        line = [("save", 3), "turn", "begin", ("join", 0), "saved", ("save", 1), "again"]
        self.assertEqual(last_answers(BRANCHED, line)[2:], [[0], [1], [0], [1], [1, 1]])


class Join(unittest.TestCase):
    def test_it_answers_the_new_places_number(self):
        self.assertEqual(answered(["begin", ("join", 0), ("join", 1), ("join", 0)]),
                         [[0], [1], [2], [3]])

    def test_the_fire_goes_by_the_joins(self):
        self.assertEqual(last_answers(BRANCHED, ["turn", "burns", "turn", "burns", "turn", "burns"]),
                         [[2, 3], [3, 0, 1, 2], [3, 6], [6, 0, 1, 2, 3, 4, 5],
                          [1, 7], [7, 0, 1, 2, 3, 4, 5, 6]])

    def test_no_such_place(self):
        self.assertEqual(last_answers([0], [("join", 2), ("join", LARGEST), ("join", 1)]),
                         [[-2], [-2], [2]])

    def test_twelve_places_at_most(self):
        self.assertEqual(last_answers(ROW_OF_TWELVE[:10], [("join", 10), ("join", 11), ("join", 0)]),
                         [[11], [-28], [-28]])

    def test_a_dropped_place_makes_room(self):
        self.assertEqual(last_answers(ROW_OF_TWELVE, ["drop", ("join", 11), ("join", 0), ("join", 0)]),
                         [[11], [-2], [11], [-28]])

    def test_not_when_more_burns(self):
        self.assertEqual(last_answers([0], ["turn", ("join", 0), "again", ("join", 0)]),
                         [[1, 2], [-16], [2, 0], [2]])

    def test_not_when_something_is_saved(self):
        self.assertEqual(last_answers([0], [("save", 1), ("join", 0), "turn", ("join", 0)]),
                         [[1], [-16], [0, 1], [-16]])

    def test_a_turn_in_which_nothing_more_burns_leaves_it_free(self):
        self.assertEqual(last_answers([], ["turn", ("join", 0)]), [[0, 1], [1]])

    def test_a_fire_that_begins_elsewhere_leaves_it_free(self):
        self.assertEqual(last_answers(ROW_OF_FOUR, [("fire", 2), ("join", 3), "turn", ("join", 3)]),
                         [[0], [4], [2, 3], [-16]])

    def test_no_such_place_stands_first(self):
        self.assertEqual(last_answers([0], ["turn", ("join", 2)])[1], [-2])
        self.assertEqual(last_answers([0], [("save", 1), ("join", 2)])[1], [-2])
        self.assertEqual(last_answers(ROW_OF_TWELVE, [("join", 12), ("join", LARGEST)]), [[-2], [-2]])

    def test_under_way_stands_ahead_of_too_many(self):
        self.assertEqual(last_answers(ROW_OF_TWELVE, ["turn", ("join", 0)])[1], [-16])
        self.assertEqual(last_answers(ROW_OF_TWELVE, [("save", 5), ("join", 0)])[1], [-16])

    def test_refused_it_changes_nothing(self):
        self.assertEqual(last_answers([0], [("join", 9)] + LOOKS + ["drop"]),
                         [[-2], [1, 0], [0], [0], [1]])
        self.assertEqual(last_answers([0, 0], [("save", 1), ("join", 1)] + LOOKS + ["again", "drop"]),
                         [[1], [-16], [1, 0], [1, 1], [1, 1], [1, 1], [2]])
        self.assertEqual(last_answers(ROW_OF_TWELVE, [("join", 0)] + LOOKS + ["drop"]),
                         [[-28], [1, 0], [0], [0], [11]])


class Drop(unittest.TestCase):
    def test_the_last_is_gone(self):
        self.assertEqual(last_answers(BRANCHED, ["drop", ("save", 6), "drop", ("save", 5), ("save", 4)]),
                         [[6], [-2], [5], [-2], [1]])

    def test_the_fire_does_not_reach_what_is_gone(self):
        self.assertEqual(last_answers(ROW_OF_FOUR, ["drop", "turn", "turn", "turn", "burns"]),
                         [[3], [1, 2], [1, 3], [0, 3], [3, 0, 1, 2]])

    def test_the_same_number_can_be_joined_elsewhere_then(self):
        line = ["drop", ("join", 0), "turn", "burns"]
        self.assertEqual(last_answers(ROW_OF_FOUR, line), [[3], [3], [2, 3], [3, 0, 1, 3]])

    def test_only_one(self):
        self.assertEqual(last_answers([0], ["drop", "drop", "burns", ("join", 0)]),
                         [[1], [-6], [1, 0], [1]])

    def test_only_one_stands_ahead_of_the_fire_at_the_last(self):
        self.assertEqual(last_answers([], [("fire", 0), "drop"]), [[0], [-6]])

    def test_the_fire_begins_at_the_last(self):
        self.assertEqual(last_answers([0, 0], [("fire", 2), "drop", "burns", ("fire", 1), "drop"]),
                         [[0], [-17], [1, 2], [2], [2]])

    def test_a_fire_that_begins_elsewhere_leaves_it_free(self):
        self.assertEqual(last_answers(ROW_OF_FOUR, [("fire", 2), "drop", "drop", "burns"]),
                         [[0], [3], [-17], [1, 2]])

    def test_not_when_more_burns_or_something_is_saved(self):
        self.assertEqual(last_answers(ROW_OF_FOUR, ["turn", "drop", "again", "drop"]),
                         [[1, 2], [-16], [2, 0], [3]])
        self.assertEqual(last_answers(ROW_OF_FOUR, [("save", 2), "drop", "again", "drop"]),
                         [[1], [-16], [1, 1], [3]])

    def test_under_way_stands_ahead_of_the_fire_at_the_last(self):
        self.assertEqual(last_answers(ROW_OF_FOUR, [("fire", 3), "turn", "drop"])[2], [-16])
        self.assertEqual(last_answers(ROW_OF_FOUR, [("fire", 3), ("save", 1), "drop"])[2], [-16])

    def test_refused_it_changes_nothing(self):
        self.assertEqual(last_answers(ROW_OF_FOUR, ["turn", ("save", 3), "drop"] + LOOKS + [("fire", 3)]),
                         [[1, 2], [1], [-16], [2, 0, 1], [1, 3], [1, 3], [0]])
        self.assertEqual(last_answers([0, 0], [("fire", 2), "drop", "turn", "burns"]),
                         [[0], [-17], [1, 2], [2, 0, 2]])


class Fire(unittest.TestCase):
    def test_it_answers_where_it_began_until_then(self):
        self.assertEqual(last_answers(ROW_OF_FOUR, [("fire", 3), ("fire", 1), ("fire", 1), ("fire", 0)]),
                         [[0], [3], [1], [1]])

    def test_it_burns_there_and_nowhere_else(self):
        self.assertEqual(last_answers(ROW_OF_FOUR, ["turn", ("fire", 3), "burns", "turn", "burns"]),
                         [[1, 2], [0], [1, 3], [1, 2], [2, 2, 3]])

    def test_nothing_is_saved(self):
        self.assertEqual(last_answers(ROW_OF_FOUR, [("save", 2), ("fire", 0)] + LOOKS + [("save", 2)]),
                         [[1], [0], [1, 0], [0], [0], [1]])

    def test_it_leaves_how_many_are_saved_a_turn(self):
        line = [("each", 2), ("fire", 4), ("save", 1), ("save", 2), ("save", 3), ("each", 2)]
        self.assertEqual(last_answers(STAR_OF_FIVE, line), [[1], [0], [1], [2], [-28], [2]])

    def test_in_the_middle_it_goes_both_ways(self):
        self.assertEqual(last_answers(ROW_OF_TWELVE, [("fire", 5), "turn", "turn", "burns"]),
                         [[0], [2, 3], [2, 5], [5, 3, 4, 5, 6, 7]])

    def test_it_is_at_its_beginning_there_again(self):
        self.assertEqual(last_answers(ROW_OF_FOUR, [("fire", 2), "turn", "again", "burns"]),
                         [[0], [2, 3], [3, 0], [1, 2]])

    def test_no_such_place(self):
        self.assertEqual(last_answers(ROW_OF_FOUR, [("fire", 4), ("fire", LARGEST)]), [[-2], [-2]])

    def test_refused_it_changes_nothing(self):
        line = ["turn", ("save", 3), ("fire", 4)] + LOOKS + [("save", 2), ("fire", 2)]
        self.assertEqual(last_answers(ROW_OF_FOUR, line),
                         [[1, 2], [1], [-2], [2, 0, 1], [1, 3], [1, 3], [-28], [0]])


class Each(unittest.TestCase):
    def test_it_answers_how_many_it_was(self):
        self.assertEqual(last_answers([], [("each", 1), ("each", 2), ("each", 2), ("each", 1)]),
                         [[1], [1], [2], [2]])

    def test_two_are_saved_a_turn(self):
        line = [("each", 2), ("save", 1), ("save", 2), ("save", 3), "turn", ("save", 3), "saved"]
        self.assertEqual(last_answers(STAR_OF_FIVE + [4], line),
                         [[1], [1], [2], [-28], [2, 3], [-33], [2, 1, 2]])

    def test_one_again(self):
        line = [("each", 2), ("each", 1), ("save", 1), ("save", 2)]
        self.assertEqual(last_answers(STAR_OF_FIVE, line), [[1], [2], [1], [-28]])

    def test_the_fire_is_at_its_beginning_and_nothing_saved(self):
        for n in (1, 2):
            line = [("fire", 1), ("save", 4), "turn", ("each", n)] + LOOKS + ["again", ("fire", 0)]
            self.assertEqual(last_answers(BRANCHED, line),
                             [[0], [1], [2, 3], [1], [1, 1], [0], [0], [1, 0], [1]])

    def test_none_is_saved_in_this_turn_then(self):
        self.assertEqual(last_answers(STAR_OF_FIVE, [("save", 1), ("each", 1), ("save", 1), ("save", 2)]),
                         [[1], [1], [1], [-28]])

    def test_out_of_range(self):
        for n in (0, 3, 12, LARGEST):
            self.assertEqual(last_answers(STAR_OF_FIVE, [("each", n), ("each", 1)]), [[-22], [1]], n)

    def test_refused_it_changes_nothing(self):
        line = [("each", 2), ("save", 3), "turn", ("save", 6), ("each", 3)] + LOOKS
        line += [("save", 5), ("save", 4), ("each", 1)]
        self.assertEqual(last_answers(BRANCHED, line),
                         [[1], [1], [2, 3], [2], [-22], [3, 0, 1, 2], [2, 3, 6], [2, 3, 6],
                          [3], [-28], [2]])


if __name__ == "__main__":
    unittest.main()
