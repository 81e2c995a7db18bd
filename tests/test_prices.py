import unittest

from helper import (
    REFUSED,
    THREE,
    AnswerCase,
    long_lists,
    members,
    plain_best,
    plain_computed_prices,
    plain_conflict,
    plain_is_valid,
    plain_weight,
    small_lists,
)
from spreadpicks.selections import best_selection, prices


def plain_price_selection(spacing, points):
    computed = plain_computed_prices(spacing, points)
    mask = 0
    for i in reversed(range(len(points) // 2)):
        free = all(not plain_conflict(spacing, i, j, points) for j in members(mask, points))
        if computed[i] > 0 and free:
            mask += 2**i
    return mask


class Prices(AnswerCase):
    def check(self, spacing, points, expected):
        self.assert_answer(prices(spacing, points), expected)

    def test_example(self):
        self.check(3, THREE, [8, 5, 4, 1, 3])

    def test_no_point(self):
        self.check(1, [], [0, 0])
        self.check(999, [], [0, 0])

    def test_one_point(self):
        self.check(3, [7, 5], [5, 1, 5])
        self.check(999, [999, 99], [99, 1, 99])

    def test_points_without_conflict_have_their_weight_as_price(self):
        self.check(3, [0, 4, 10, 5, 20, 6], [15, 7, 4, 5, 6])

    def test_points_that_all_conflict(self):
        self.check(10, [0, 4, 3, 9, 6, 5], [9, 2, 4, 5, 0])
        self.check(999, [0, 1, 500, 2, 998, 3], [3, 4, 1, 1, 1])

    def test_distance_equal_to_the_spacing_is_no_conflict(self):
        self.check(3, [0, 4, 3, 5], [9, 3, 4, 5])
        self.check(999, [0, 4, 999, 5], [9, 3, 4, 5])
        self.check(1, [0, 4, 1, 5], [9, 3, 4, 5])

    def test_distance_one_less_than_the_spacing_is_a_conflict(self):
        self.check(3, [0, 4, 2, 5], [5, 2, 4, 1])
        self.check(999, [0, 4, 998, 5], [5, 2, 4, 1])
        self.check(2, [0, 4, 1, 5], [5, 2, 4, 1])

    def test_point_of_weight_zero_has_no_price_and_is_not_taken(self):
        self.check(3, [5, 0], [0, 0, 0])
        self.check(3, [0, 0, 5, 5], [5, 2, 0, 5])
        self.check(3, [0, 5, 5, 0], [5, 1, 5, 0])
        self.check(3, [0, 5, 2, 0], [5, 1, 5, 0])
        self.check(1, [0, 0, 1, 0, 2, 0], [0, 0, 0, 0, 0])

    def test_price_is_zero_where_earlier_prices_reach_the_weight(self):
        self.check(3, [0, 5, 2, 5], [5, 1, 5, 0])
        self.check(3, [0, 5, 2, 4], [5, 1, 5, 0])
        self.check(3, [0, 5, 2, 6], [6, 2, 5, 1])
        self.check(3, [0, 99, 1, 1, 2, 98], [99, 1, 99, 0, 0])

    def test_only_together_earlier_prices_reach_the_weight(self):
        self.check(3, [0, 3, 1, 5, 2, 5], [5, 2, 3, 2, 0])
        self.check(3, [0, 3, 1, 5, 2, 6], [6, 4, 3, 2, 1])

    def test_weight_that_earlier_prices_outweigh_takes_nothing_from_later_ones(self):
        self.check(3, [0, 9, 2, 4, 4, 6], [15, 5, 9, 0, 6])

    def test_price_of_an_earlier_point_and_not_its_weight_is_taken_off(self):
        self.check(2, [0, 4, 1, 6, 2, 6, 3, 6], [12, 10, 4, 2, 4, 2])

    def test_conflict_reaches_over_points_between(self):
        self.check(4, [0, 5, 1, 1, 2, 1, 3, 6], [6, 8, 5, 0, 0, 1])
        self.check(3, [0, 5, 1, 1, 2, 1, 3, 6], [11, 9, 5, 0, 0, 6])

    def test_positive_price_in_conflict_with_a_point_taken_before_is_not_taken(self):
        self.check(3, [0, 4, 2, 9, 4, 4], [9, 2, 4, 5, 0])
        self.check(3, [0, 4, 2, 5, 4, 2], [6, 5, 4, 1, 1])
        self.check(4, [0, 1, 1, 2, 3, 3], [3, 4, 1, 1, 1])
        self.check(2, [0, 1, 1, 2, 3, 1, 4, 2], [4, 10, 1, 1, 1, 1])

    def test_point_in_conflict_only_with_one_that_was_not_taken_is_taken(self):
        self.check(2, [0, 1, 1, 2, 2, 3], [4, 5, 1, 1, 2])
        self.check(2, [0, 1, 1, 2, 2, 3, 3, 4], [6, 10, 1, 1, 2, 2])

    def test_sets_of_equal_weight(self):
        self.check(2, [0, 1, 1, 2, 2, 1], [2, 2, 1, 1, 0])
        self.check(2, [0, 1, 1, 3, 2, 3, 3, 1], [4, 5, 1, 2, 1, 0])

    def test_twelve_points(self):
        points = []
        for i in range(12):
            points += [90 * i, 99]
        self.check(90, points, [1188, 4095] + [99] * 12)
        self.check(91, points, [594, 1365] + [99, 0] * 6)
        self.check(999, points, [99, 1] + [99] + [0] * 11)


class AgainstTheWords(AnswerCase):
    """The document's words on the price, and the requirement 1, over many inputs."""

    def check(self, spacing, points):
        computed = plain_computed_prices(spacing, points)
        mask = plain_price_selection(spacing, points)
        answer = prices(spacing, points)
        self.assert_answer(answer, [sum(computed), mask] + computed)
        total, mask = answer[:2]
        self.assertTrue(plain_is_valid(spacing, mask, points))
        self.assertEqual(plain_weight(mask, points), total)
        self.assertEqual(plain_best(spacing, points)[0], total)
        self.assertEqual(best_selection(spacing, points)[0], total)

    def test_all_small_lists(self):
        for points in small_lists(6, [0, 1, 2]):
            for spacing in range(1, 7):
                with self.subTest(spacing=spacing, points=points):
                    self.check(spacing, points)

    def test_small_lists_of_uneven_weights(self):
        for points in small_lists(5, [1, 2, 5, 9]):
            for spacing in (2, 3, 4):
                with self.subTest(spacing=spacing, points=points):
                    self.check(spacing, points)

    def test_long_lists(self):
        for points in long_lists():
            for spacing in (1, 20, 50, 90, 170, 999):
                with self.subTest(spacing=spacing, points=points):
                    self.check(spacing, points)


class StandsByItself(AnswerCase):
    def test_an_error_is_the_code_alone(self):
        self.assert_answer(prices(0, list(THREE)), REFUSED)
        self.assert_answer(prices(3, [0, 4, 2]), REFUSED)

    def test_nothing_is_changed_or_kept(self):
        self.assert_stands_by_itself(prices, 3, list(THREE))
        self.assert_stands_by_itself(prices, 3, [0, 4, 2, 9, 4, 4])
        self.assert_stands_by_itself(prices, 3, [])
        self.assert_stands_by_itself(prices, 0, list(THREE))
        self.assert_stands_by_itself(prices, 3, [4, 4, 2, 5, 0, 4])


if __name__ == "__main__":
    unittest.main()
