import unittest

from helper import (
    REFUSED,
    THREE,
    TWELVE,
    AnswerCase,
    plain_is_valid,
    plain_weight,
    small_lists,
)
from spreadpicks.selections import evaluate_selection


class EvaluateSelection(AnswerCase):
    def check(self, spacing, mask, points, expected):
        self.assert_answer(evaluate_selection(spacing, mask, points), expected)

    def test_example(self):
        self.check(3, 8, THREE, REFUSED)

    def test_empty_set(self):
        self.check(3, 0, [], [1, 0])
        self.check(3, 0, [5, 9], [1, 0])
        self.check(999, 0, THREE, [1, 0])

    def test_one_point(self):
        self.check(3, 1, [5, 9], [1, 9])
        self.check(999, 2, THREE, [1, 5])
        self.check(999, 4, THREE, [1, 4])

    def test_valid_set(self):
        self.check(3, 5, THREE, [1, 8])
        self.check(2, 7, THREE, [1, 13])

    def test_set_that_is_not_valid_has_its_weight_told(self):
        self.check(3, 3, THREE, [0, 9])
        self.check(3, 6, THREE, [0, 9])
        self.check(3, 7, THREE, [0, 13])
        self.check(5, 5, THREE, [0, 8])

    def test_only_points_of_the_set_count(self):
        self.check(4, 9, [0, 1, 1, 2, 3, 4, 4, 8], [1, 9])
        self.check(5, 9, [0, 1, 1, 2, 3, 4, 4, 8], [0, 9])

    def test_one_conflict_anywhere_is_enough(self):
        self.check(5, 15, [0, 1, 4, 2, 10, 3, 20, 4], [0, 10])
        self.check(5, 15, [0, 1, 10, 2, 14, 3, 20, 4], [0, 10])
        self.check(5, 15, [0, 1, 10, 2, 20, 3, 24, 4], [0, 10])
        self.check(5, 15, [0, 1, 10, 2, 20, 3, 25, 4], [1, 10])

    def test_distance_at_the_spacing_and_one_less(self):
        self.check(3, 3, [0, 4, 3, 5], [1, 9])
        self.check(4, 3, [0, 4, 3, 5], [0, 9])
        self.check(999, 3, [0, 4, 999, 5], [1, 9])
        self.check(999, 3, [0, 4, 998, 5], [0, 9])
        self.check(1, 3, [0, 4, 1, 5], [1, 9])

    def test_points_of_weight_zero(self):
        self.check(3, 3, [0, 0, 3, 0], [1, 0])
        self.check(3, 3, [0, 0, 2, 0], [0, 0])

    def test_all_sets_of_small_lists(self):
        for points in small_lists(5, [0, 3]):
            for spacing in range(1, 6):
                for mask in range(2 ** (len(points) // 2)):
                    with self.subTest(spacing=spacing, mask=mask, points=points):
                        valid = 1 if plain_is_valid(spacing, mask, points) else 0
                        expected = [valid, plain_weight(mask, points)]
                        self.check(spacing, mask, points, expected)


class MaskLimits(AnswerCase):
    def check(self, mask, points, expected):
        self.assert_answer(evaluate_selection(5, mask, points), expected)

    def test_no_point(self):
        self.check(0, [], [1, 0])
        self.check(1, [], REFUSED)
        self.check(4294967295, [], REFUSED)

    def test_one_point(self):
        self.check(1, [5, 9], [1, 9])
        self.check(2, [5, 9], REFUSED)
        self.check(3, [5, 9], REFUSED)

    def test_three_points(self):
        self.check(7, [0, 1, 5, 2, 10, 3], [1, 6])
        for mask in (8, 9, 15, 16, 2**31, 4294967295):
            self.check(mask, [0, 1, 5, 2, 10, 3], REFUSED)

    def test_twelve_points(self):
        self.check(0, TWELVE, [1, 0])
        self.check(2048, TWELVE, [1, 12])
        self.check(4095, TWELVE, [1, 78])
        self.check(4096, TWELVE, REFUSED)
        self.check(4294967295, TWELVE, REFUSED)


class StandsByItself(AnswerCase):
    def test_nothing_is_changed_or_kept(self):
        self.assert_stands_by_itself(evaluate_selection, 3, 5, list(THREE))
        self.assert_stands_by_itself(evaluate_selection, 3, 3, list(THREE))
        self.assert_stands_by_itself(evaluate_selection, 3, 8, list(THREE))
        self.assert_stands_by_itself(evaluate_selection, 0, 1, list(THREE))
        self.assert_stands_by_itself(evaluate_selection, 3, 0, [])


if __name__ == "__main__":
    unittest.main()
