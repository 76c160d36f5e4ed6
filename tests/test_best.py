"""Of promise 3 best and greedy; promise 4: mores, from and worst."""

import unittest

from lines import BRANCHED, MISLED, ROW_OF_FOUR, ROW_OF_TWELVE, STAR_OF_FIVE, last_answers

# Two places alike by 1 and 2, which have one place each behind them.
TWO_ALIKE = [0, 0, 1, 2]
# 1 with 3 behind it, or the greater 2 with 4 and 5 in a row behind it: alike when one is saved a turn.
LESSER_FIRST = [0, 0, 1, 2, 4]
# Twelve places; from 1 the greatest two keep fewer than the best.
MISLED_BY_TWO = [0, 1, 0, 1, 1, 4, 5, 5, 2, 6, 0]

# The fire in the middle of a turn: 0 and 2 burn, and 1 and 4 are saved.
UNDER_WAY = [("save", 1), "turn", ("save", 4)]


def asked(name, joins, ahead=()):
    """What the call of that name answers behind those ahead."""
    return last_answers(joins, list(ahead) + [name])[-1]


class Best(unittest.TestCase):
    def test_how_many_are_kept_then_these(self):
        self.assertEqual(asked("best", BRANCHED), [5, 1, 5])
        self.assertEqual(asked("best", MISLED), [6, 2, 3])

    def test_one_place(self):
        self.assertEqual(asked("best", []), [0])
        self.assertEqual(asked("best", [], [("each", 2)]), [0])

    def test_a_row_from_its_end(self):
        self.assertEqual(asked("best", ROW_OF_FOUR), [3, 1])
        self.assertEqual(asked("best", ROW_OF_FOUR, [("fire", 3)]), [3, 2])
        self.assertEqual(asked("best", ROW_OF_TWELVE, [("fire", 11), ("each", 2)]), [11, 10])

    def test_a_row_from_its_middle(self):
        self.assertEqual(asked("best", ROW_OF_FOUR, [("fire", 1)]), [2, 0, 3])
        self.assertEqual(asked("best", ROW_OF_FOUR, [("fire", 2)]), [2, 1])
        self.assertEqual(asked("best", ROW_OF_TWELVE, [("fire", 5)]), [10, 4, 7])
        self.assertEqual(asked("best", ROW_OF_TWELVE, [("fire", 5), ("each", 2)]), [11, 4, 6])

    def test_a_star(self):
        self.assertEqual(asked("best", STAR_OF_FIVE), [1, 1])
        self.assertEqual(asked("best", STAR_OF_FIVE, [("each", 2)]), [2, 1, 2])
        self.assertEqual(asked("best", STAR_OF_FIVE, [("fire", 3)]), [4, 0])
        self.assertEqual(asked("best", [0] * 11, [("each", 2)]), [2, 1, 2])

    def test_the_fire_at_an_end(self):
        self.assertEqual(asked("best", BRANCHED, [("fire", 6)]), [6, 5])
        self.assertEqual(asked("best", BRANCHED, [("fire", 3)]), [6, 1])

    def test_two_a_turn(self):
        self.assertEqual(asked("best", BRANCHED, [("each", 2)]), [6, 1, 2])
        self.assertEqual(asked("best", BRANCHED, [("each", 2), ("fire", 1)]), [5, 0, 3])
        self.assertEqual(asked("best", MISLED_BY_TWO, [("fire", 1), ("each", 2)]), [9, 0, 5, 6, 9])

    def test_those_of_one_turn_rise(self):
        self.assertEqual(asked("best", [0, 0, 0, 2], [("each", 2)]), [3, 1, 2])
        self.assertEqual(asked("best", [0, 0, 0, 3, 4, 5], [("each", 2)]), [5, 1, 2, 4])
        self.assertEqual(asked("best", [0, 0, 0, 3, 3], [("each", 2)]), [4, 1, 2, 4, 5])
        self.assertEqual(asked("best", [0, 0, 0, 3, 3, 3], [("each", 2)]), [5, 1, 3])

    def test_of_two_alike_the_first(self):
        self.assertEqual(asked("best", TWO_ALIKE), [3, 1, 4])
        self.assertEqual(asked("best", [0, 0, 2, 1]), [3, 1, 3])

    def test_the_first_turn_in_which_they_differ_tells(self):
        self.assertEqual(asked("best", LESSER_FIRST), [4, 1, 4])

    def test_a_later_turn_tells_when_the_first_is_alike(self):
        self.assertEqual(asked("best", [0, 0, 1, 1, 2, 2]), [4, 1, 5])
        self.assertEqual(asked("best", [0, 0, 0, 1, 1, 1, 2, 2, 2, 3, 3], [("each", 2)]), [10, 1, 2, 10, 11])

    def test_two_alike_with_two_a_turn(self):
        self.assertEqual(asked("best", [0, 0, 0, 1, 2, 3], [("each", 2)]), [5, 1, 2, 6])

    def test_till_there_are_none(self):
        self.assertEqual(asked("best", [0, 0, 1, 3, 4, 5, 2, 7, 8]), [8, 1, 7])
        # From 0 go three rows of 3 places, and of each one more is saved in each turn.
        self.assertEqual(asked("best", [0, 0, 0, 1, 2, 3, 4, 5, 6]), [6, 1, 5, 9])


class Greedy(unittest.TestCase):
    def test_how_many_are_kept_then_these(self):
        self.assertEqual(asked("greedy", BRANCHED), [5, 1, 5])
        self.assertEqual(asked("greedy", [0, 0, 2, 3]), [3, 2])

    def test_it_keeps_fewer_than_the_best(self):
        self.assertEqual(asked("greedy", MISLED), [5, 1, 6])
        self.assertEqual(asked("best", MISLED), [6, 2, 3])

    def test_it_keeps_fewer_with_two_a_turn(self):
        self.assertEqual(asked("greedy", MISLED_BY_TWO, [("fire", 1), ("each", 2)]), [8, 0, 4, 7, 8])

    def test_one_place(self):
        self.assertEqual(asked("greedy", []), [0])
        self.assertEqual(asked("greedy", [], [("each", 2)]), [0])

    def test_a_row(self):
        self.assertEqual(asked("greedy", ROW_OF_FOUR), [3, 1])
        self.assertEqual(asked("greedy", ROW_OF_FOUR, [("fire", 3)]), [3, 2])
        self.assertEqual(asked("greedy", ROW_OF_FOUR, [("fire", 1)]), [2, 2])
        self.assertEqual(asked("greedy", ROW_OF_TWELVE, [("fire", 5)]), [10, 6, 3])

    def test_a_star(self):
        self.assertEqual(asked("greedy", STAR_OF_FIVE), [1, 1])
        self.assertEqual(asked("greedy", STAR_OF_FIVE, [("each", 2)]), [2, 1, 2])
        self.assertEqual(asked("greedy", STAR_OF_FIVE, [("fire", 4)]), [4, 0])

    def test_of_alike_ones_the_lesser_number(self):
        self.assertEqual(asked("greedy", TWO_ALIKE), [3, 1, 4])
        self.assertEqual(asked("greedy", [0, 0, 1, 2, 2, 1]), [4, 1, 4])
        self.assertEqual(asked("greedy", [0, 0, 0, 1, 2, 3], [("each", 2)]), [5, 1, 2, 6])

    def test_the_greater_part_ahead_of_the_lesser_number(self):
        self.assertEqual(asked("greedy", LESSER_FIRST), [4, 2, 3])

    def test_of_one_turn_the_greatest_part_first(self):
        self.assertEqual(asked("greedy", [0, 0, 0, 2], [("each", 2)]), [3, 2, 1])
        self.assertEqual(asked("greedy", [0, 0, 0, 3, 4], [("each", 2)]), [4, 3, 1])
        self.assertEqual(asked("greedy", [0, 0, 2], [("each", 2)]), [3, 2, 1])

    def test_parts_are_told_from_where_the_fire_begins(self):
        self.assertEqual(asked("greedy", BRANCHED, [("fire", 1)]), [4, 0])
        self.assertEqual(asked("greedy", BRANCHED, [("fire", 1), ("each", 2)]), [5, 0, 3])


class FromAndWorst(unittest.TestCase):
    def test_of_each_place(self):
        self.assertEqual(asked("from", ROW_OF_FOUR), [4, 3, 2, 2, 3])
        self.assertEqual(asked("from", STAR_OF_FIVE), [5, 1, 4, 4, 4, 4])
        self.assertEqual(asked("from", BRANCHED), [7, 5, 4, 5, 6, 6, 5, 6])

    def test_the_least_then_where(self):
        self.assertEqual(asked("worst", ROW_OF_FOUR), [2, 1, 2])
        self.assertEqual(asked("worst", STAR_OF_FIVE), [1, 0])
        self.assertEqual(asked("worst", BRANCHED), [4, 1])

    def test_two_a_turn(self):
        self.assertEqual(asked("from", ROW_OF_FOUR, [("each", 2)]), [4, 3, 3, 3, 3])
        self.assertEqual(asked("worst", ROW_OF_FOUR, [("each", 2)]), [3, 0, 1, 2, 3])
        self.assertEqual(asked("from", STAR_OF_FIVE, [("each", 2)]), [5, 2, 4, 4, 4, 4])
        self.assertEqual(asked("worst", STAR_OF_FIVE, [("each", 2)]), [2, 0])
        self.assertEqual(asked("from", BRANCHED, [("each", 2)]), [7, 6, 5, 6, 6, 6, 6, 6])
        self.assertEqual(asked("worst", BRANCHED, [("each", 2)]), [5, 1])

    def test_one_place(self):
        self.assertEqual(asked("from", []), [1, 0])
        self.assertEqual(asked("worst", []), [0, 0])

    def test_twelve_places(self):
        self.assertEqual(asked("from", ROW_OF_TWELVE), [12, 11] + [10] * 10 + [11])
        self.assertEqual(asked("worst", ROW_OF_TWELVE), [10] + list(range(1, 11)))
        self.assertEqual(asked("worst", ROW_OF_TWELVE, [("each", 2)]), [11] + list(range(12)))
        self.assertEqual(asked("from", [0] * 11), [12, 1] + [11] * 11)

    def test_where_the_fire_begins_now_does_not_matter(self):
        for p in range(7):
            self.assertEqual(asked("from", BRANCHED, [("fire", p)]), [7, 5, 4, 5, 6, 6, 5, 6])
            self.assertEqual(asked("worst", BRANCHED, [("fire", p)]), [4, 1])


class Mores(unittest.TestCase):
    def test_with_one_saved_a_turn_then_with_two(self):
        self.assertEqual(asked("mores", BRANCHED), [2, 5, 6])
        self.assertEqual(asked("mores", STAR_OF_FIVE), [2, 1, 2])
        self.assertEqual(asked("mores", MISLED_BY_TWO, [("fire", 1)]), [2, 5, 9])

    def test_from_where_the_fire_begins(self):
        self.assertEqual(asked("mores", ROW_OF_FOUR), [2, 3, 3])
        self.assertEqual(asked("mores", ROW_OF_FOUR, [("fire", 1)]), [2, 2, 3])
        self.assertEqual(asked("mores", STAR_OF_FIVE, [("fire", 2)]), [2, 4, 4])

    def test_one_place(self):
        self.assertEqual(asked("mores", []), [2, 0, 0])

    def test_how_many_are_saved_a_turn_now_does_not_matter(self):
        self.assertEqual(asked("mores", BRANCHED, [("each", 2)]), [2, 5, 6])


class UnderWay(unittest.TestCase):
    def test_they_tell_of_a_fire_from_its_beginning_on(self):
        for name in ("best", "greedy", "from", "worst", "mores"):
            for each in (1, 2):
                ahead = [("each", each)]
                self.assertEqual(asked(name, BRANCHED, ahead + UNDER_WAY), asked(name, BRANCHED, ahead), name)
                self.assertEqual(asked(name, BRANCHED, ahead + ["turn"] * 4), asked(name, BRANCHED, ahead), name)

    def test_asked_again_they_tell_the_same(self):
        for name in ("best", "greedy", "from", "worst", "mores"):
            self.assertEqual(asked(name, MISLED, [name, "turn", name]), asked(name, MISLED))


if __name__ == "__main__":
    unittest.main()
