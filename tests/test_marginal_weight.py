import unittest

from helper import (
    NO_SUCH_POINT,
    REFUSED,
    THREE,
    TWELVE,
    AnswerCase,
    long_lists,
    plain_best,
    small_lists,
)
from spreadpicks.selections import marginal_weight


def plain_marginal(spacing, index, points):
    without = points[: 2 * index] + points[2 * index + 2 :]
    return plain_best(spacing, points)[0] - plain_best(spacing, without)[0]


class MarginalWeight(AnswerCase):
    def check(self, spacing, points, differences):
        """The answers of this list's points, one after another."""
        self.assertEqual(len(differences), len(points) // 2)
        for index, difference in enumerate(differences):
            with self.subTest(spacing=spacing, index=index, points=points):
                self.assert_answer(marginal_weight(spacing, index, points), [difference])

    def test_example(self):
        self.assert_answer(marginal_weight(3, 0, THREE), [3])

    def test_one_point(self):
        self.check(3, [7, 5], [5])
        self.check(1, [0, 1], [1])
        self.check(999, [999, 99], [99])

    def test_point_of_the_best_selection_and_one_that_is_not_in_it(self):
        self.check(3, THREE, [3, 0, 3])
        self.check(3, [0, 4, 2, 9, 4, 4], [0, 1, 0])

    def test_point_whose_place_another_takes(self):
        self.check(3, [0, 4, 2, 5], [0, 1])
        self.check(10, [0, 4, 3, 9, 6, 5], [0, 4, 0])
        self.check(2, [0, 9, 1, 1, 2, 1, 3, 9], [8, 0, 0, 8])

    def test_point_that_nothing_takes_the_place_of(self):
        self.check(3, [0, 4, 10, 5, 20, 6], [4, 5, 6])
        self.check(3, [0, 4, 2, 5, 9, 7], [0, 1, 7])

    def test_point_whose_place_two_others_take(self):
        self.check(3, [0, 3, 2, 9, 4, 4], [0, 2, 0])
        self.check(3, [0, 8, 2, 99, 4, 1, 9, 5], [0, 90, 0, 5])

    def test_point_of_weight_zero(self):
        self.check(3, [7, 0], [0])
        self.check(1, [0, 0, 1, 0, 2, 0], [0, 0, 0])
        self.check(3, [0, 0, 5, 5, 10, 0], [0, 5, 0])
        self.check(3, [0, 5, 2, 0, 4, 6], [5, 0, 6])

    def test_distance_equal_to_the_spacing_is_no_conflict(self):
        self.check(3, [0, 4, 3, 5], [4, 5])
        self.check(999, [0, 4, 999, 5], [4, 5])
        self.check(1, [0, 4, 1, 5], [4, 5])

    def test_distance_one_less_than_the_spacing_is_a_conflict(self):
        self.check(999, [0, 4, 998, 5], [0, 1])
        self.check(2, [0, 4, 1, 5], [0, 1])

    def test_two_sets_with_the_same_greatest_weight(self):
        self.check(3, [0, 4, 2, 4], [0, 0])
        self.check(3, [0, 1, 2, 2, 4, 1], [0, 0, 0])
        self.check(3, [0, 4, 2, 4, 9, 3], [0, 0, 3])
        self.check(3, [0, 2, 2, 2, 4, 2, 6, 2], [0, 0, 0, 0])

    def test_conflict_reaches_over_points_between(self):
        self.check(4, [0, 5, 1, 1, 2, 1, 3, 6], [0, 0, 0, 1])
        self.check(3, [0, 5, 1, 1, 2, 1, 3, 6], [5, 0, 0, 6])

    def test_twelve_points(self):
        self.check(5, TWELVE, TWELVE[1::2])
        self.check(6, TWELVE, [0, 1, 0, 2, 0, 3, 0, 4, 0, 5, 0, 6])
        self.check(999, TWELVE, [0] * 11 + [1])


class NoSuchPoint(AnswerCase):
    def check(self, spacing, index, points):
        with self.subTest(spacing=spacing, index=index, points=points):
            self.assert_answer(marginal_weight(spacing, index, points), NO_SUCH_POINT)

    def test_no_point_at_all(self):
        for index in (0, 1, 11, 12, 4294967295):
            self.check(1, index, [])

    def test_index_of_the_last_point_and_beyond(self):
        for points in ([7, 5], THREE, TWELVE[:22], TWELVE):
            count = len(points) // 2
            self.assert_answer(marginal_weight(1, 0, points), points[1:2])
            self.assert_answer(marginal_weight(1, count - 1, points), points[-1:])
            for index in (count, count + 1, 12, 13, 24, 999, 4294967295):
                self.check(1, index, points)

    def test_wrong_spacing_or_points_are_told_first(self):
        for spacing, points in (
            (0, THREE),
            (1000, THREE),
            (0, []),
            (3, [0]),
            (3, [0, 4, 2]),
            (3, [0, 100]),
            (3, [1000, 4]),
            (3, [4, 4, 4, 5]),
            (1, list(range(26))),
        ):
            for index in (0, len(points) // 2, 13, 4294967295):
                with self.subTest(spacing=spacing, index=index, points=points):
                    self.assert_answer(marginal_weight(spacing, index, points), REFUSED)


class AgainstPlainSearch(AnswerCase):
    def check(self, spacing, points):
        for index in range(len(points) // 2):
            with self.subTest(spacing=spacing, index=index, points=points):
                expected = [plain_marginal(spacing, index, points)]
                self.assert_answer(marginal_weight(spacing, index, points), expected)

    def test_all_small_lists(self):
        for points in small_lists(5, [0, 1, 2]):
            for spacing in range(1, 6):
                self.check(spacing, points)

    def test_small_lists_of_uneven_weights(self):
        for points in small_lists(5, [1, 5, 9]):
            for spacing in (2, 3, 4):
                self.check(spacing, points)

    def test_long_lists(self):
        for points in long_lists():
            for spacing in (20, 50, 90):
                self.check(spacing, points)


class StandsByItself(AnswerCase):
    def test_an_error_is_the_code_alone(self):
        self.assert_answer(marginal_weight(0, 0, list(THREE)), REFUSED)
        self.assert_answer(marginal_weight(3, 0, [0, 4, 2]), REFUSED)
        self.assert_answer(marginal_weight(3, 3, list(THREE)), NO_SUCH_POINT)

    def test_nothing_is_changed_or_kept(self):
        for index in range(4):
            self.assert_stands_by_itself(marginal_weight, 3, index, list(THREE))
        self.assert_stands_by_itself(marginal_weight, 3, 0, [])
        self.assert_stands_by_itself(marginal_weight, 0, 0, list(THREE))
        self.assert_stands_by_itself(marginal_weight, 3, 1, [4, 4, 2, 5, 0, 4])


if __name__ == "__main__":
    unittest.main()
