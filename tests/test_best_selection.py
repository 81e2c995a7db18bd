import unittest

from helper import AnswerCase, long_lists, plain_best, small_lists
from spreadpicks.selections import best_selection


class BestSelection(AnswerCase):
    def check(self, spacing, points, expected):
        self.assert_answer(best_selection(spacing, points), expected)

    def test_example(self):
        self.check(3, [0, 4, 2, 5, 4, 4], [8, 5])

    def test_no_point(self):
        self.check(1, [], [0, 0])
        self.check(999, [], [0, 0])

    def test_one_point(self):
        self.check(3, [7, 5], [5, 1])
        self.check(999, [999, 99], [99, 1])

    def test_points_without_conflict_are_all_taken(self):
        self.check(3, [0, 4, 10, 5, 20, 6], [15, 7])

    def test_of_points_that_all_conflict_the_heaviest_is_taken(self):
        self.check(10, [0, 4, 3, 9, 6, 5], [9, 2])
        self.check(999, [0, 1, 500, 2, 998, 3], [3, 4])

    def test_middle_point_that_outweighs_both_neighbours(self):
        self.check(3, [0, 4, 2, 9, 4, 4], [9, 2])

    def test_two_points_in_a_row_are_left_out(self):
        self.check(2, [0, 9, 1, 1, 2, 1, 3, 9], [18, 9])

    def test_distance_equal_to_the_spacing_is_no_conflict(self):
        self.check(3, [0, 4, 3, 5], [9, 3])
        self.check(999, [0, 4, 999, 5], [9, 3])
        self.check(1, [0, 4, 1, 5], [9, 3])

    def test_distance_one_less_than_the_spacing_is_a_conflict(self):
        self.check(3, [0, 4, 2, 5], [5, 2])
        self.check(999, [0, 4, 998, 5], [5, 2])
        self.check(2, [0, 4, 1, 5], [5, 2])

    def test_conflict_reaches_over_points_between(self):
        self.check(4, [0, 5, 1, 1, 2, 1, 3, 6], [6, 8])


class SmallestMask(AnswerCase):
    def check(self, spacing, points, expected):
        self.assert_answer(best_selection(spacing, points), expected)

    def test_equal_weights(self):
        self.check(3, [0, 4, 2, 4], [4, 1])
        self.check(5, [0, 4, 1, 4, 2, 4], [4, 1])
        self.check(3, [0, 2, 2, 2, 4, 2, 6, 2], [4, 5])

    def test_smallest_mask_with_fewer_points(self):
        self.check(3, [0, 1, 2, 2, 4, 1], [2, 2])

    def test_equal_weights_beside_a_point_that_is_always_taken(self):
        self.check(4, [0, 1, 4, 2, 6, 2], [3, 3])
        self.check(4, [0, 2, 2, 2, 6, 1], [3, 5])

    def test_point_of_weight_zero_is_left_out(self):
        self.check(3, [5, 0], [0, 0])
        self.check(1, [0, 0, 1, 0, 2, 0], [0, 0])
        self.check(3, [0, 0, 5, 5], [5, 2])
        self.check(3, [0, 5, 5, 0], [5, 1])

    def test_equal_weights_and_weight_zero(self):
        self.check(3, [0, 4, 2, 4, 4, 0], [4, 1])
        self.check(3, [0, 0, 2, 4, 4, 4], [4, 2])


class AgainstPlainSearch(AnswerCase):
    def test_all_small_lists(self):
        for points in small_lists(6, [0, 1, 2]):
            for spacing in range(1, 7):
                with self.subTest(spacing=spacing, points=points):
                    expected = plain_best(spacing, points)
                    self.assert_answer(best_selection(spacing, points), expected)

    def test_long_lists(self):
        for points in long_lists():
            for spacing in (1, 20, 50, 90, 170, 999):
                with self.subTest(spacing=spacing, points=points):
                    expected = plain_best(spacing, points)
                    self.assert_answer(best_selection(spacing, points), expected)

    def test_a_larger_spacing_never_gives_a_greater_weight(self):
        for points in long_lists():
            weights = [best_selection(spacing, points)[0] for spacing in range(1, 1000)]
            self.assertEqual(weights, sorted(weights, reverse=True))


class StandsByItself(AnswerCase):
    def test_nothing_is_changed_or_kept(self):
        self.assert_stands_by_itself(best_selection, 3, [0, 4, 2, 5, 4, 4])
        self.assert_stands_by_itself(best_selection, 3, [])
        self.assert_stands_by_itself(best_selection, 0, [0, 4, 2, 5])
        self.assert_stands_by_itself(best_selection, 3, [4, 4, 2, 5, 0, 4])


if __name__ == "__main__":
    unittest.main()
