"""Promise 2: save, turn, again, burns, saved and safe."""

import unittest

from lines import (BRANCHED, LARGEST, LOOKS, ROW_OF_FOUR, ROW_OF_TWELVE, STAR_OF_FIVE,
                   last_answers)


class Save(unittest.TestCase):
    def test_it_answers_how_many_are_saved_in_all(self):
        line = [("save", 4), "turn", ("save", 3), "turn", ("save", 6), "saved"]
        self.assertEqual(last_answers(BRANCHED, line),
                         [[1], [2, 3], [2], [1, 4], [3], [3, 4, 3, 6]])

    def test_a_place_that_would_burn_this_turn(self):
        self.assertEqual(last_answers(ROW_OF_FOUR, [("save", 1), "turn", "burns", "safe"]),
                         [[1], [0, 1], [1, 0], [3, 1, 2, 3]])

    def test_behind_what_is_saved(self):
        line = [("save", 1), "turn", ("save", 3), "turn", ("save", 2), "saved", "safe"]
        self.assertEqual(last_answers(ROW_OF_FOUR, line),
                         [[1], [0, 1], [2], [0, 1], [3], [3, 1, 3, 2], [3, 1, 2, 3]])

    def test_ahead_of_what_is_saved(self):
        self.assertEqual(last_answers(ROW_OF_FOUR, [("each", 2), ("save", 3), ("save", 1)] + LOOKS)[1:],
                         [[1], [2], [1, 0], [2, 3, 1], [3, 1, 2, 3]])

    def test_no_such_place(self):
        self.assertEqual(last_answers(ROW_OF_FOUR, [("save", 4), ("save", LARGEST), ("save", 3)]),
                         [[-2], [-2], [1]])

    def test_it_burns(self):
        self.assertEqual(last_answers(ROW_OF_FOUR, [("save", 0), "turn", ("save", 1), ("save", 2)]),
                         [[-33], [1, 2], [-33], [1]])
        self.assertEqual(last_answers(ROW_OF_FOUR, [("fire", 2), ("save", 2), ("save", 0)]),
                         [[0], [-33], [1]])
        self.assertEqual(last_answers([], [("save", 0)]), [[-33]])

    def test_it_is_saved_already(self):
        self.assertEqual(last_answers(ROW_OF_FOUR, [("save", 2), "turn", ("save", 2), ("save", 3)]),
                         [[1], [1, 2], [-17], [2]])
        self.assertEqual(last_answers(ROW_OF_FOUR, [("each", 2), ("save", 2), ("save", 2), ("save", 3)]),
                         [[1], [1], [-17], [2]])

    def test_as_many_as_may_be(self):
        self.assertEqual(last_answers(STAR_OF_FIVE, [("save", 1), ("save", 2), "turn"]),
                         [[1], [-28], [3, 4]])
        self.assertEqual(
            last_answers(STAR_OF_FIVE, [("each", 2), ("save", 1), ("save", 2), ("save", 3), "turn"]),
            [[1], [1], [2], [-28], [2, 3]])

    def test_what_was_not_saved_in_one_turn_is_not_made_up_for(self):
        self.assertEqual(last_answers(ROW_OF_TWELVE, ["turn", "turn", ("save", 9), ("save", 11)]),
                         [[1, 2], [1, 3], [1], [-28]])
        line = [("each", 2), ("save", 5), "turn", ("save", 6), ("save", 7), ("save", 8)]
        self.assertEqual(last_answers(ROW_OF_TWELVE, line),
                         [[1], [1], [1, 2], [2], [3], [-28]])

    def test_the_others_stand_ahead_of_too_many(self):
        self.assertEqual(last_answers(ROW_OF_FOUR, [("save", 2), ("save", 4), ("save", 0), ("save", 2)]),
                         [[1], [-2], [-33], [-17]])
        line = [("each", 2), ("save", 2), ("save", 3), ("save", 9), ("save", 0), ("save", 3), ("save", 1)]
        self.assertEqual(last_answers(ROW_OF_FOUR, line),
                         [[1], [1], [2], [-2], [-33], [-17], [-28]])

    def test_refused_it_changes_nothing(self):
        for refused in (9, 0, 3):
            line = [("each", 2), ("save", 3), ("save", refused)] + LOOKS + [("save", 4), ("save", 5)]
            self.assertEqual(last_answers(BRANCHED, line)[3:],
                             [[1, 0], [1, 3], [1, 3], [2], [-28]], refused)
        self.assertEqual(last_answers(BRANCHED, [("save", 3), ("save", 4)] + LOOKS + ["turn", ("save", 4)]),
                         [[1], [-28], [1, 0], [1, 3], [1, 3], [2, 3], [2]])


class Turn(unittest.TestCase):
    def test_how_many_more_then_how_many(self):
        self.assertEqual(last_answers(ROW_OF_TWELVE, ["turn"] * 13),
                         [[1, n] for n in range(2, 13)] + [[0, 12], [0, 12]])

    def test_one_place(self):
        self.assertEqual(last_answers([], ["turn", "turn", "burns"]), [[0, 1], [0, 1], [1, 0]])

    def test_a_star_burns_at_once(self):
        self.assertEqual(last_answers(STAR_OF_FIVE, ["turn", "turn"]), [[4, 5], [0, 5]])

    def test_a_star_from_its_end(self):
        self.assertEqual(last_answers(STAR_OF_FIVE, [("fire", 3), "turn", "burns", "turn"]),
                         [[0], [1, 2], [2, 0, 3], [3, 5]])

    def test_it_goes_on_by_one_join_a_turn(self):
        self.assertEqual(last_answers(BRANCHED, [("fire", 6)] + ["turn", "burns"] * 4),
                         [[0], [1, 2], [2, 5, 6], [1, 3], [3, 2, 5, 6], [1, 4], [4, 0, 2, 5, 6],
                          [1, 5], [5, 0, 1, 2, 5, 6]])

    def test_it_stops_at_what_is_saved(self):
        self.assertEqual(last_answers(BRANCHED, [("save", 2), "turn", "turn", "turn", "burns"]),
                         [[1], [1, 2], [2, 4], [0, 4], [4, 0, 1, 3, 4]])

    def test_two_saved_where_two_are_joined_keeps_all_else(self):
        self.assertEqual(last_answers(BRANCHED, [("each", 2), ("save", 1), ("save", 2), "turn", "safe"]),
                         [[1], [1], [2], [0, 1], [6, 1, 2, 3, 4, 5, 6]])

    def test_nothing_saved_burns_all(self):
        self.assertEqual(last_answers(BRANCHED, ["turn", "turn", "turn", "turn"]),
                         [[2, 3], [3, 6], [1, 7], [0, 7]])


class Again(unittest.TestCase):
    def test_how_many_burned_then_how_many_were_saved(self):
        self.assertEqual(last_answers(BRANCHED, [("save", 4), "turn", ("save", 6), "turn", "again"])[4],
                         [5, 2])

    def test_at_the_beginning(self):
        self.assertEqual(last_answers([], ["again", "again"]), [[1, 0], [1, 0]])

    def test_nothing_is_saved_then(self):
        self.assertEqual(last_answers(BRANCHED, [("save", 4), "turn", "again"] + LOOKS)[3:],
                         [[1, 0], [0], [0]])

    def test_the_turn_is_new(self):
        self.assertEqual(last_answers(STAR_OF_FIVE, [("save", 1), "again", ("save", 1), ("save", 2)]),
                         [[1], [1, 1], [1], [-28]])

    def test_it_leaves_where_the_fire_begins_and_how_many_are_saved(self):
        line = [("each", 2), ("fire", 3), "turn", "again", "burns", ("fire", 0), ("each", 1)]
        self.assertEqual(last_answers(BRANCHED, line),
                         [[1], [0], [1, 2], [2, 0], [1, 3], [3], [2]])

    def test_it_leaves_the_places(self):
        self.assertEqual(last_answers(BRANCHED, ["turn", "again", "turn", "turn", "turn"])[2:],
                         [[2, 3], [3, 6], [1, 7]])


class Burns(unittest.TestCase):
    def test_they_rise(self):
        self.assertEqual(last_answers([0, 0, 2, 3], [("fire", 4), "turn", "burns", "turn", "burns"]),
                         [[0], [1, 2], [2, 3, 4], [1, 3], [3, 2, 3, 4]])

    def test_what_will_burn_does_not_burn_yet(self):
        self.assertEqual(last_answers(STAR_OF_FIVE, ["burns", "turn", "burns"]),
                         [[1, 0], [4, 5], [5, 0, 1, 2, 3, 4]])


class Saved(unittest.TestCase):
    def test_in_the_order_in_which_they_were_saved(self):
        line = [("each", 2), ("save", 6), ("save", 3), "turn", ("save", 5), ("save", 4), "saved"]
        self.assertEqual(last_answers(BRANCHED, line)[6], [4, 6, 3, 5, 4])

    def test_none(self):
        self.assertEqual(last_answers(BRANCHED, ["turn", "saved"])[1], [0])


class Safe(unittest.TestCase):
    def test_nothing_saved(self):
        self.assertEqual(last_answers(BRANCHED, ["safe", "turn", "safe"]), [[0], [2, 3], [0]])

    def test_what_lies_beyond_what_is_saved(self):
        self.assertEqual(last_answers(BRANCHED, [("save", 2), "safe", "turn", "turn", "safe"]),
                         [[1], [3, 2, 5, 6], [1, 2], [2, 4], [3, 2, 5, 6]])

    def test_they_rise_however_they_were_saved(self):
        self.assertEqual(last_answers(BRANCHED, [("each", 2), ("save", 5), ("save", 1), "safe"])[3],
                         [5, 1, 3, 4, 5, 6])

    def test_beyond_is_told_from_where_the_fire_begins(self):
        self.assertEqual(last_answers(ROW_OF_FOUR, [("fire", 3), ("save", 1), "safe"]),
                         [[0], [1], [2, 0, 1]])
        self.assertEqual(last_answers(ROW_OF_FOUR, [("fire", 1), ("save", 2), "safe"]),
                         [[0], [1], [2, 2, 3]])

    def test_what_will_burn_later_is_not_safe(self):
        self.assertEqual(last_answers(ROW_OF_TWELVE, [("save", 11), "safe", "burns"]),
                         [[1], [1, 11], [1, 0]])

    def test_asking_changes_nothing(self):
        line = [("save", 6), "safe", "safe"] + LOOKS + ["turn", "burns"]
        self.assertEqual(last_answers(BRANCHED, line),
                         [[1], [1, 6], [1, 6], [1, 0], [1, 6], [1, 6], [2, 3], [3, 0, 1, 2]])


if __name__ == "__main__":
    unittest.main()
