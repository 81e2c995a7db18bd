import unittest

from helper import (
    REFUSED,
    THREE,
    TWELVE,
    AnswerCase,
    long_lists,
    members,
    plain_conflict,
    plain_weight,
    small_lists,
)
from spreadpicks.selections import best_selection, evaluate_selection, greedy_selection


def plain_greedy(spacing, points):
    mask = 0
    for weight in sorted(set(points[1::2]), reverse=True):
        for i in range(len(points) // 2):
            free = all(not plain_conflict(spacing, i, j, points) for j in members(mask, points))
            if points[2 * i + 1] == weight and free:
                mask |= 2**i
    return mask


def with_few_weights(points):
    """The same positions, with so few different weights that many are equal."""
    return [n if k % 2 == 0 else n % 4 for k, n in enumerate(points)]


class GreedySelection(AnswerCase):
    def check(self, spacing, points, expected):
        self.assert_answer(greedy_selection(spacing, points), expected)

    def test_example(self):
        self.check(3, THREE, [5, 2])

    def test_no_point(self):
        self.check(1, [], [0, 0])
        self.check(999, [], [0, 0])

    def test_one_point(self):
        self.check(3, [7, 5], [5, 1])
        self.check(1, [0, 0], [0, 1])
        self.check(999, [999, 99], [99, 1])

    def test_points_without_conflict_are_all_taken(self):
        self.check(3, [0, 4, 10, 5, 20, 6], [15, 7])
        self.check(3, [0, 6, 10, 4, 20, 5], [15, 7])

    def test_of_points_that_all_conflict_the_heaviest_is_taken(self):
        self.check(10, [0, 4, 3, 9, 6, 5], [9, 2])
        self.check(999, [0, 1, 500, 2, 998, 3], [3, 4])
        self.check(999, [0, 3, 500, 2, 998, 1], [3, 1])

    def test_distance_equal_to_the_spacing_is_no_conflict(self):
        self.check(3, [0, 4, 3, 5], [9, 3])
        self.check(3, [0, 5, 3, 4], [9, 3])
        self.check(999, [0, 4, 999, 5], [9, 3])
        self.check(1, [0, 4, 1, 5], [9, 3])

    def test_distance_one_less_than_the_spacing_is_a_conflict(self):
        self.check(3, [0, 4, 2, 5], [5, 2])
        self.check(3, [0, 5, 2, 4], [5, 1])
        self.check(999, [0, 4, 998, 5], [5, 2])
        self.check(2, [0, 4, 1, 5], [5, 2])

    def test_of_equal_weights_the_smaller_index_goes_first(self):
        self.check(3, [0, 4, 2, 4], [4, 1])
        self.check(5, [0, 4, 1, 4, 2, 4], [4, 1])
        self.check(3, [0, 3, 2, 4, 4, 4], [4, 2])
        self.check(3, [0, 4, 2, 4, 4, 3], [7, 5])

    def test_equal_weights_that_are_no_neighbours(self):
        self.check(5, [0, 4, 2, 3, 4, 4], [4, 1])
        self.check(5, [0, 4, 1, 1, 2, 2, 4, 4, 5, 3], [7, 17])
        self.check(3, [0, 2, 2, 5, 4, 1, 6, 5], [10, 10])

    def test_all_weights_equal(self):
        self.check(3, [0, 2, 2, 2, 4, 2, 6, 2], [4, 5])
        self.check(3, [0, 2, 1, 2, 3, 2, 5, 2, 6, 2], [6, 21])
        self.check(4, [0, 1, 2, 1, 4, 1, 5, 1, 8, 1], [3, 21])

    def test_heavy_point_pushes_two_neighbours_out_that_weigh_more_together(self):
        self.check(3, [0, 4, 2, 5, 4, 3], [5, 2])
        self.check(3, [0, 98, 2, 99, 4, 99], [99, 2])
        self.check(2, [0, 1, 1, 8, 2, 9, 3, 8, 4, 1], [11, 21])

    def test_point_in_conflict_only_with_one_that_was_not_taken_is_taken(self):
        self.check(3, [0, 9, 2, 5, 4, 1], [10, 5])
        self.check(3, [0, 1, 2, 5, 4, 9], [10, 5])
        self.check(2, [0, 9, 1, 8, 2, 7, 3, 6], [16, 5])

    def test_point_between_two_taken_ones(self):
        self.check(3, [0, 9, 2, 5, 4, 9], [18, 5])
        self.check(3, [0, 9, 2, 5, 5, 8], [17, 5])
        self.check(3, [0, 9, 3, 5, 5, 8], [17, 5])
        self.check(3, [0, 9, 3, 5, 6, 8], [22, 7])
        self.check(3, [0, 9, 3, 0, 6, 8], [17, 7])

    def test_point_of_weight_zero_is_taken_where_nothing_taken_conflicts(self):
        self.check(3, [0, 0, 5, 5], [5, 3])
        self.check(3, [0, 5, 5, 0], [5, 3])
        self.check(1, [0, 0, 1, 0, 2, 0], [0, 7])
        self.check(2, [0, 0, 1, 0, 2, 0], [0, 5])

    def test_point_of_weight_zero_in_conflict_with_one_taken_is_left_out(self):
        self.check(3, [0, 5, 2, 0], [5, 1])
        self.check(3, [0, 0, 2, 5], [5, 2])
        self.check(3, [0, 0, 2, 1, 4, 0, 6, 0], [1, 10])

    def test_falling_weights(self):
        self.check(2, [0, 5, 1, 4, 2, 3, 3, 2, 4, 1], [9, 21])
        self.check(3, [0, 5, 1, 4, 2, 3, 3, 2, 4, 1], [7, 9])

    def test_rising_weights(self):
        self.check(2, [0, 1, 1, 2, 2, 3, 3, 4, 4, 5], [9, 21])
        self.check(3, [0, 1, 1, 2, 2, 3, 3, 4, 4, 5], [7, 18])

    def test_conflict_reaches_over_points_between(self):
        self.check(4, [0, 5, 1, 1, 2, 1, 3, 6], [6, 8])
        self.check(4, [0, 6, 1, 1, 2, 1, 3, 5], [6, 1])
        self.check(3, [0, 5, 1, 1, 2, 1, 3, 6], [11, 9])

    def test_twelve_points(self):
        self.check(5, TWELVE, [78, 4095])
        self.check(6, TWELVE, [42, 2730])
        self.check(999, TWELVE, [12, 2048])


class AgainstTheWords(AnswerCase):
    """The document's words on the selection, and the requirement 3, over many inputs."""

    def check(self, spacing, points):
        with self.subTest(spacing=spacing, points=points):
            mask = plain_greedy(spacing, points)
            answer = greedy_selection(spacing, points)
            self.assert_answer(answer, [plain_weight(mask, points), mask])
            weight, mask = answer
            self.assertEqual(evaluate_selection(spacing, mask, points), [1, weight])
            self.assertGreaterEqual(2 * weight, best_selection(spacing, points)[0])

    def test_all_small_lists(self):
        for points in small_lists(6, [0, 1, 2]):
            for spacing in range(1, 7):
                self.check(spacing, points)

    def test_small_lists_of_uneven_weights(self):
        for points in small_lists(5, [1, 2, 5, 9]):
            for spacing in (2, 3, 4):
                self.check(spacing, points)

    def test_long_lists(self):
        for points in long_lists():
            for spacing in (1, 20, 50, 90, 170, 999):
                self.check(spacing, points)
                self.check(spacing, with_few_weights(points))


class StandsByItself(AnswerCase):
    def test_an_error_is_the_code_alone(self):
        self.assert_answer(greedy_selection(0, list(THREE)), REFUSED)
        self.assert_answer(greedy_selection(3, [0, 4, 2]), REFUSED)

    def test_nothing_is_changed_or_kept(self):
        self.assert_stands_by_itself(greedy_selection, 3, list(THREE))
        self.assert_stands_by_itself(greedy_selection, 2, [0, 1, 1, 2, 2, 3, 3, 4])
        self.assert_stands_by_itself(greedy_selection, 3, [])
        self.assert_stands_by_itself(greedy_selection, 0, list(THREE))
        self.assert_stands_by_itself(greedy_selection, 3, [4, 4, 2, 5, 0, 4])


if __name__ == "__main__":
    unittest.main()
