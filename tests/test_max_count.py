import unittest

from helper import (
    REFUSED,
    THREE,
    TWELVE,
    AnswerCase,
    long_lists,
    members,
    plain_is_valid,
    small_lists,
)
from spreadpicks.selections import best_selection, max_count


def plain_count(spacing, points):
    found = 0
    for mask in range(2 ** (len(points) // 2)):
        count = len(members(mask, points))
        if count > found and plain_is_valid(spacing, mask, points):
            found = count
    return found


class MaxCount(AnswerCase):
    def check(self, spacing, points, count):
        self.assert_answer(max_count(spacing, points), [count])

    def test_the_points_of_the_examples(self):
        self.check(1, THREE, 3)
        self.check(2, THREE, 3)
        self.check(3, THREE, 2)
        self.check(4, THREE, 2)
        self.check(5, THREE, 1)

    def test_no_point(self):
        self.check(1, [], 0)
        self.check(999, [], 0)

    def test_one_point(self):
        self.check(3, [7, 5], 1)
        self.check(999, [999, 99], 1)

    def test_point_of_weight_zero_counts_as_any_other(self):
        self.check(3, [7, 0], 1)
        self.check(3, [0, 0, 5, 5], 2)
        self.check(3, [0, 5, 5, 0], 2)
        self.check(1, [0, 0, 1, 0, 2, 0], 3)
        self.check(3, [0, 0, 2, 9, 4, 0], 2)

    def test_points_that_all_conflict(self):
        self.check(10, [0, 4, 3, 9, 6, 5], 1)
        self.check(999, [0, 1, 500, 2, 998, 3], 1)
        self.check(999, TWELVE, 1)

    def test_points_without_conflict_each_count(self):
        self.check(3, [0, 4, 10, 5, 20, 6], 3)
        self.check(1, TWELVE, 12)
        self.check(5, TWELVE, 12)

    def test_distance_equal_to_the_spacing_is_no_conflict(self):
        self.check(3, [0, 4, 3, 5], 2)
        self.check(999, [0, 4, 999, 5], 2)
        self.check(1, [0, 4, 1, 5], 2)

    def test_distance_one_less_than_the_spacing_is_a_conflict(self):
        self.check(3, [0, 4, 2, 5], 1)
        self.check(999, [0, 4, 998, 5], 1)
        self.check(2, [0, 4, 1, 5], 1)
        self.check(6, TWELVE, 6)

    def test_best_selection_of_fewer_points(self):
        for spacing, points, mask, count in (
            (3, [0, 4, 2, 9, 4, 4], 0b10, 2),
            (4, [0, 1, 3, 9, 4, 1, 5, 9, 8, 1], 0b1001, 3),
            (2, [0, 1, 1, 9, 2, 1, 3, 9, 4, 1], 0b1010, 3),
            (2, [0, 0, 1, 5, 2, 0, 9, 0], 0b10, 3),
        ):
            with self.subTest(spacing=spacing, points=points):
                self.check(spacing, points, count)
                self.assertEqual(best_selection(spacing, points)[1], mask)

    def test_points_near_one_another_and_one_by_itself(self):
        self.check(3, [0, 1, 5, 1, 6, 1, 7, 1, 8, 1], 3)
        self.check(3, [0, 1, 1, 1, 2, 1, 3, 1, 8, 1], 3)
        self.check(4, [0, 1, 1, 1, 2, 1, 3, 1], 1)


class AgainstPlainSearch(AnswerCase):
    def check(self, spacing, points):
        with self.subTest(spacing=spacing, points=points):
            self.assert_answer(max_count(spacing, points), [plain_count(spacing, points)])

    def check_never_rises(self, spacings, points):
        with self.subTest(points=points):
            counts = [max_count(spacing, points)[0] for spacing in spacings]
            self.assertEqual(counts, sorted(counts, reverse=True))

    def test_all_small_lists(self):
        for points in small_lists(6, [0, 1, 2]):
            for spacing in range(1, 7):
                self.check(spacing, points)
            self.check_never_rises(range(1, 8), points)

    def test_all_positions_of_one_weight(self):
        for weight in (0, 1, 99):
            for points in small_lists(10, [weight]):
                for spacing in range(1, 11):
                    self.check(spacing, points)

    def test_long_lists(self):
        for points in long_lists():
            for spacing in (1, 20, 50, 90, 170, 999):
                self.check(spacing, points)
            self.check_never_rises(range(1, 1000), points)


class StandsByItself(AnswerCase):
    def test_an_error_is_the_code_alone(self):
        self.assert_answer(max_count(0, list(THREE)), REFUSED)
        self.assert_answer(max_count(3, [0, 4, 2]), REFUSED)

    def test_nothing_is_changed_or_kept(self):
        self.assert_stands_by_itself(max_count, 3, list(THREE))
        self.assert_stands_by_itself(max_count, 2, [0, 1, 1, 2, 2, 3, 3, 4])
        self.assert_stands_by_itself(max_count, 3, [])
        self.assert_stands_by_itself(max_count, 0, list(THREE))
        self.assert_stands_by_itself(max_count, 3, [4, 4, 2, 5, 0, 4])


if __name__ == "__main__":
    unittest.main()
