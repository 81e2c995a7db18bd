"""The limits of `spacing` and `points`, which every operation checks first."""

import unittest

from helper import NO_SUCH_POINT, REFUSED, AnswerCase
from spreadpicks.selections import (
    best_selection,
    check_prices,
    evaluate_selection,
    greedy_selection,
    marginal_weight,
    max_count,
    prices,
)


def evaluate_empty(spacing, points):
    return evaluate_selection(spacing, 0, points)


def evaluate_unknown(spacing, points):
    return evaluate_selection(spacing, 4294967295, points)


def check_most(spacing, points):
    return check_prices(spacing, points, [999] * (len(points) // 2))


def check_one_too_many(spacing, points):
    return check_prices(spacing, points, [999] * (len(points) // 2 + 1))


def check_too_great(spacing, points):
    return check_prices(spacing, points, [4294967295] * max(1, len(points) // 2))


def marginal_first(spacing, points):
    return marginal_weight(spacing, 0, points)


def marginal_last(spacing, points):
    return marginal_weight(spacing, max(0, len(points) // 2 - 1), points)


def marginal_unknown(spacing, points):
    return marginal_weight(spacing, len(points) // 2, points)


def marginal_far_unknown(spacing, points):
    return marginal_weight(spacing, 4294967295, points)


OPERATIONS = (
    best_selection,
    evaluate_empty,
    evaluate_unknown,
    prices,
    check_most,
    check_one_too_many,
    check_too_great,
    greedy_selection,
    max_count,
    marginal_first,
    marginal_last,
    marginal_unknown,
    marginal_far_unknown,
)


def spread(count):
    """A list of `count` points of weight 1, ten apart."""
    points = []
    for i in range(count):
        points += [10 * i, 1]
    return points


class Limits(AnswerCase):
    def refused(self, spacing, points):
        for operation in OPERATIONS:
            with self.subTest(operation=operation.__name__, spacing=spacing, points=points):
                self.assert_answer(operation(spacing, points), REFUSED)

    def taken(self, spacing, points, best):
        """Within the limits, and without a conflict."""
        count = len(points) // 2
        with self.subTest(spacing=spacing, points=points):
            self.assert_answer(best_selection(spacing, points), best)
            self.assert_answer(evaluate_empty(spacing, points), [1, 0])
            self.assert_answer(evaluate_unknown(spacing, points), REFUSED)
            self.assert_answer(prices(spacing, points), best + points[1::2])
            self.assert_answer(check_most(spacing, points), [1, 999 * count])
            self.assert_answer(check_one_too_many(spacing, points), REFUSED)
            self.assert_answer(check_too_great(spacing, points), REFUSED)
            self.assert_answer(greedy_selection(spacing, points), [best[0], 2**count - 1])
            self.assert_answer(max_count(spacing, points), [count])
            first = points[1:2] or NO_SUCH_POINT
            last = points[-1:] or NO_SUCH_POINT
            self.assert_answer(marginal_first(spacing, points), first)
            self.assert_answer(marginal_last(spacing, points), last)
            self.assert_answer(marginal_unknown(spacing, points), NO_SUCH_POINT)
            self.assert_answer(marginal_far_unknown(spacing, points), NO_SUCH_POINT)

    def test_spacing(self):
        for spacing in (0, 1000, 1001, 4294967295):
            self.refused(spacing, [0, 4, 999, 5])
            self.refused(spacing, [])
        for spacing in (1, 2, 998, 999):
            self.taken(spacing, [0, 4, 999, 5], [9, 3])
            self.taken(spacing, [], [0, 0])

    def test_positions(self):
        self.taken(1, [0, 4], [4, 1])
        self.taken(1, [999, 4], [4, 1])
        self.taken(1, [998, 4, 999, 5], [9, 3])
        self.refused(1, [1000, 4])
        self.refused(1, [4294967295, 4])
        self.refused(1, [0, 4, 1000, 5])
        self.refused(1, [0, 4, 500, 5, 4294967295, 6])

    def test_weights(self):
        self.taken(1, [5, 0], [0, 0])
        self.taken(1, [5, 99], [99, 1])
        self.taken(1, [5, 99, 6, 99], [198, 3])
        self.refused(1, [5, 100])
        self.refused(1, [5, 4294967295])
        self.refused(1, [0, 100, 1, 4])
        self.refused(1, [0, 4, 1, 100])
        self.refused(1, [0, 4, 1, 100, 2, 4])

    def test_positions_are_strictly_increasing(self):
        self.taken(1, [4, 1, 5, 1], [2, 3])
        self.refused(1, [4, 1, 4, 1])
        self.refused(1, [5, 1, 4, 1])
        self.refused(1, [0, 1, 0, 1])
        self.refused(1, [0, 1, 5, 1, 5, 1])
        self.refused(1, [0, 1, 5, 1, 3, 1])
        self.refused(1, [3, 1, 1, 1, 5, 1])
        self.refused(1, [0, 1, 9, 1, 3, 1, 10, 1])

    def test_two_integers_for_each_point(self):
        self.refused(1, [0])
        self.refused(1, [0, 4, 1])
        self.refused(1, [0, 4, 1, 5, 2])
        self.refused(1, spread(12) + [500])
        self.refused(1, spread(11) + [500])

    def test_number_of_points(self):
        self.taken(10, spread(11), [11, 2047])
        self.taken(10, spread(12), [12, 4095])
        self.refused(10, spread(13))
        self.refused(10, spread(13) + [500])
        self.assertEqual(len(spread(13) + [500]), 27)
        self.refused(10, [0] * 27)
        self.refused(10, list(range(27)))

    def test_wrong_spacing_and_wrong_points(self):
        self.refused(0, [0, 100])
        self.refused(1000, [0])
        self.refused(4294967295, [5, 1, 4, 1])


if __name__ == "__main__":
    unittest.main()
