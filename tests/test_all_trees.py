"""What holds (a to d), on all small trees, wherever the fire begins, with one and two saved a turn."""

import functools
import itertools
import unittest

from lines import answered, built, last_answers
from reckoned import reckoned_best

MOST = 6
FEWER = 5
FULL_LINE = 400


def all_joins(most):
    """Of each tree of so many places at the most, to which place each was joined."""
    return [list(joins) for many in range(most) for joins in itertools.product(*[range(p + 1) for p in range(many)])]


def all_cases(most):
    """Each such tree, each place of it and how many are saved a turn."""
    return [(joins, origin, each) for joins in all_joins(most) for origin in range(len(joins) + 1) for each in (1, 2)]


def asked(case, line):
    """What the calls of the line answer, the fire's beginning and how many are saved being told ahead."""
    joins, origin, each = case
    return last_answers(joins, [("fire", origin), ("each", each)] + line)[2:]


def burnt_behind(joins, burning, saved):
    """All that burns a turn later."""
    pairs = [(p, joins[p - 1]) for p in range(1, len(joins) + 1)]
    reached = {q for pair in pairs for p, q in (pair, pair[::-1]) if p in burning}
    return burning | frozenset(reached - saved)


def most_by_any_row(joins, origin, each):
    """The most that is kept by any row of places that could be saved: all are gone through."""
    places = frozenset(range(len(joins) + 1))

    @functools.cache
    def most_from(burning, saved, free):
        if free == 0:
            return most_from(burnt_behind(joins, burning, saved), saved, each)
        ended = burning
        while burnt_behind(joins, ended, saved) != ended:
            ended = burnt_behind(joins, ended, saved)
        later = [most_from(burning, saved | {p}, free - 1) for p in places - burning - saved]
        return max([len(places - ended)] + later)

    return most_from(frozenset([origin]), frozenset(), each)


def rows_of(joins):
    """All rows of places of the tree in which none stands twice."""
    places = range(len(joins) + 1)
    return [list(row) for many in range(len(joins) + 1) for row in itertools.permutations(places, many)]


def run_all(case, rows):
    """What running each row answers, and what is kept by its places."""
    answers = []
    part = FULL_LINE // 2 - len(case[0]) - 3
    for at in range(0, len(rows), part):
        answers += asked(case, [(name, row) for row in rows[at:at + part] for name in ("run", "kept")])
    return answers[::2], answers[1::2]


class AllTrees(unittest.TestCase):
    def test_by_no_row_is_more_kept_than_by_the_best(self):
        for case in all_cases(MOST):
            best = asked(case, ["best"])[0]
            self.assertEqual(best[0], most_by_any_row(*case), case)

    def test_the_best_that_comes_first_is_told(self):
        for joins, origin, each in all_cases(MOST):
            ways_up = [[0]]
            for p in joins:
                ways_up.append([len(ways_up)] + ways_up[p])
            best = reckoned_best(tuple(map(tuple, ways_up)), origin, each)
            self.assertEqual(asked((joins, origin, each), ["best"])[0], best, (joins, origin, each))

    def test_no_row_run_keeps_more_and_one_keeps_as_much(self):
        for case in all_cases(FEWER):
            runs, kept = run_all(case, rows_of(case[0]))
            self.assertEqual(max(run[0] for run in runs), asked(case, ["best"])[0][0], case)

    def test_what_is_kept_is_what_lies_beyond_what_is_saved_in_time(self):
        for case in all_cases(FEWER):
            runs, kept = run_all(case, rows_of(case[0]))
            for run, beyond in zip(runs, kept):
                if run != [-33]:
                    self.assertEqual(run, [beyond[0], len(case[0]) + 1 - beyond[0]], case)

    def test_the_greatest_first_keeps_half_as_much_at_least(self):
        fewer = 0
        for case in all_cases(MOST + 1):
            best, greedy = asked(case, ["best", "greedy"])
            self.assertLessEqual(greedy[0], best[0], case)
            self.assertGreaterEqual(2 * greedy[0], best[0], case)
            fewer += greedy[0] < best[0]
        self.assertGreater(fewer, 0)

    def test_run_best_and_greedy_keep_what_they_say(self):
        for case in all_cases(MOST):
            for told in asked(case, ["best", "greedy"]):
                kept, places = told[0], told[1:]
                self.assertEqual(asked(case, [("run", places), ("kept", places)]),
                                 [[kept, len(case[0]) + 1 - kept], [kept]], case)

    def test_playing_the_best_turn_by_turn_keeps_what_it_says(self):
        for case in all_cases(FEWER):
            kept, *places = asked(case, ["best"])[0]
            line = [call for at in range(0, len(places), case[2])
                    for call in [("save", p) for p in places[at:at + case[2]]] + ["turn"]]
            self.assertEqual(asked(case, line + ["turn"] * 6 + ["safe", "again"])[-2:][0][0], kept, case)
            self.assertEqual(asked(case, line + ["turn"] * 6 + ["again"])[-1],
                             [len(case[0]) + 1 - kept, len(places)], case)

    def test_more_saved_a_turn_never_keep_less_and_never_all(self):
        for joins, origin, each in all_cases(MOST):
            many, one, two = asked((joins, origin, each), ["mores"])[0]
            self.assertEqual(many, 2)
            self.assertLessEqual(one, two, (joins, origin))
            self.assertLess(two, len(joins) + 1, (joins, origin))
            self.assertEqual(asked((joins, origin, 1), ["best"])[0][0], one, (joins, origin))
            self.assertEqual(asked((joins, origin, 2), ["best"])[0][0], two, (joins, origin))

    def test_joined_with_no_more_than_are_saved_all_else_is_kept(self):
        for joins, origin, each in all_cases(MOST):
            joined = joins.count(origin) + (origin > 0)
            kept = asked((joins, origin, each), ["best"])[0][0]
            self.assertEqual(kept == len(joins), joined <= each, (joins, origin, each))

    def test_from_and_worst_tell_the_best_of_each_place(self):
        for joins in all_joins(MOST):
            for each in (1, 2):
                line = [call for p in range(len(joins) + 1) for call in (("fire", p), "best")]
                kept = [answer[0] for answer in asked((joins, 0, each), line)[1::2]]
                places = [p for p in range(len(kept)) if kept[p] == min(kept)]
                self.assertEqual(asked((joins, len(joins), each), ["from", "worst"]),
                                 [[len(kept)] + kept, [min(kept)] + places], joins)

    def test_sizes_depths_and_levels_agree(self):
        for joins, origin, each in all_cases(MOST):
            places = range(len(joins) + 1)
            answers = asked((joins, origin, each), [(name, p) for name in ("size", "deep", "level", "kept")
                                                    for p in ([[q] for q in places] if name == "kept" else places)])
            many = len(places)
            sizes, depths, levels, kept = [answers[at:at + many] for at in range(0, 4 * many, many)]
            self.assertEqual(sizes, kept)
            # Each place lies beyond itself and beyond as many others as it is deep.
            self.assertEqual(sum(size[0] for size in sizes), sum(depth[0] + 1 for depth in depths))
            for n in places:
                there = [p for p in places if depths[p] == [n]]
                self.assertEqual(levels[n], [len(there)] + there)


class TwelvePlaces(unittest.TestCase):
    def test_by_no_row_is_more_kept(self):
        joins = [0, 0, 1, 1, 2, 2, 3, 5, 5, 8, 4]
        for each in (1, 2):
            for origin in (0, 1, 8):
                case = (joins, origin, each)
                self.assertEqual(asked(case, ["best"])[0][0], most_by_any_row(*case), case)

    def test_every_call_of_a_full_line_ends(self):
        joins = [0, 0, 0, 1, 1, 2, 2, 3, 3, 4, 5]
        line = built(joins) + [("each", 2)]
        answers = answered(line + ["from"] * (FULL_LINE - len(line)))
        self.assertEqual(answers[-1], answers[len(line)])


if __name__ == "__main__":
    unittest.main()
