import itertools
import unittest

from helper import (
    REFUSED,
    THREE,
    TWELVE,
    AnswerCase,
    long_lists,
    plain_best,
    plain_computed_prices,
    plain_prices_ahead,
    small_lists,
)
from spreadpicks.selections import check_prices, prices


def plain_are_sufficient(spacing, points, prices):
    for i in range(len(points) // 2):
        if points[2 * i + 1] > prices[i] + plain_prices_ahead(spacing, i, points, prices):
            return False
    return True


class CheckPrices(AnswerCase):
    def check(self, spacing, points, prices, expected):
        self.assert_answer(check_prices(spacing, points, prices), expected)

    def test_example(self):
        self.check(3, THREE, [4, 1, 3], [1, 8])

    def test_no_point_and_no_price(self):
        self.check(1, [], [], [1, 0])
        self.check(999, [], [], [1, 0])

    def test_one_point(self):
        self.check(3, [7, 5], [5], [1, 5])
        self.check(3, [7, 5], [4], [0, 4])
        self.check(3, [7, 5], [6], [1, 6])
        self.check(3, [7, 0], [0], [1, 0])
        self.check(999, [999, 99], [99], [1, 99])
        self.check(999, [999, 99], [98], [0, 98])

    def test_one_too_little_at_the_first_point(self):
        self.check(3, THREE, [3, 2, 3], [0, 8])

    def test_one_too_little_in_the_middle(self):
        self.check(3, THREE, [4, 0, 4], [0, 8])

    def test_one_too_little_at_the_last_point(self):
        self.check(3, THREE, [4, 1, 2], [0, 7])
        self.check(3, THREE, [5, 0, 3], [0, 8])

    def test_one_too_little_without_a_conflict(self):
        self.check(2, THREE, [4, 5, 4], [1, 13])
        self.check(2, THREE, [3, 5, 4], [0, 12])
        self.check(2, THREE, [4, 4, 4], [0, 12])
        self.check(2, THREE, [4, 5, 3], [0, 12])

    def test_prices_greater_than_needed(self):
        self.check(3, THREE, [5, 1, 3], [1, 9])
        self.check(3, THREE, [4, 2, 3], [1, 9])
        self.check(3, THREE, [4, 1, 4], [1, 9])
        self.check(3, THREE, [999, 999, 999], [1, 2997])

    def test_zero_prices(self):
        self.check(3, THREE, [0, 0, 0], [0, 0])
        self.check(3, [0, 0, 2, 0], [0, 0], [1, 0])

    def test_price_of_a_later_point_does_not_help(self):
        self.check(3, [0, 4, 2, 5], [0, 999], [0, 999])
        self.check(3, [0, 4, 2, 5], [3, 999], [0, 1002])
        self.check(5, THREE, [4, 0, 999], [0, 1003])

    def test_price_of_an_earlier_point_without_conflict_does_not_help(self):
        self.check(3, [0, 4, 3, 5], [999, 4], [0, 1003])
        self.check(3, THREE, [999, 0, 3], [0, 1002])
        self.check(1, [0, 4, 1, 5], [999, 4], [0, 1003])
        self.check(999, [0, 4, 999, 5], [999, 4], [0, 1003])

    def test_price_of_an_earlier_point_in_conflict_helps(self):
        self.check(3, [0, 4, 2, 5], [5, 0], [1, 5])
        self.check(3, [0, 4, 2, 5], [4, 0], [0, 4])
        self.check(999, [0, 4, 998, 5], [5, 0], [1, 5])
        self.check(4, [0, 4, 3, 5], [5, 0], [1, 5])

    def test_prices_of_several_earlier_points_help_together(self):
        self.check(5, THREE, [4, 1, 0], [1, 5])
        self.check(5, [0, 1, 2, 2, 4, 3], [1, 1, 1], [1, 3])
        self.check(5, [0, 1, 2, 2, 4, 3], [1, 1, 0], [0, 2])

    def test_conflict_reaches_over_points_between(self):
        self.check(4, [0, 5, 1, 1, 2, 1, 3, 6], [6, 0, 0, 0], [1, 6])
        self.check(3, [0, 5, 1, 1, 2, 1, 3, 6], [6, 0, 0, 0], [0, 6])

    def test_computed_prices_are_sufficient(self):
        self.check(3, [0, 4, 2, 9, 4, 4], prices(3, [0, 4, 2, 9, 4, 4])[2:], [1, 9])
        self.check(5, TWELVE, prices(5, TWELVE)[2:], [1, 78])
        self.check(3, [], prices(3, [])[2:], [1, 0])


class PricesLimits(AnswerCase):
    def check(self, points, prices, expected):
        self.assert_answer(check_prices(5, points, prices), expected)

    def test_price_at_the_first_and_the_last_place(self):
        points = [0, 0, 5, 0, 10, 0]
        for price in (0, 1, 998, 999):
            self.check(points, [price, 0, 0], [1, price])
            self.check(points, [0, price, 0], [1, price])
            self.check(points, [0, 0, price], [1, price])
        for price in (1000, 1001, 4294967295):
            self.check(points, [price, 0, 0], REFUSED)
            self.check(points, [0, price, 0], REFUSED)
            self.check(points, [0, 0, price], REFUSED)

    def test_price_of_the_only_point(self):
        self.check([5, 9], [0], [0, 0])
        self.check([5, 9], [999], [1, 999])
        self.check([5, 9], [1000], REFUSED)
        self.check([5, 9], [4294967295], REFUSED)

    def test_price_among_twelve(self):
        self.check(TWELVE, [0] * 12, [0, 0])
        self.check(TWELVE, [999] * 12, [1, 11988])
        for price in (1000, 4294967295):
            self.check(TWELVE, [price] + [999] * 11, REFUSED)
            self.check(TWELVE, [999] * 11 + [price], REFUSED)
            self.check(TWELVE, [price] * 12, REFUSED)

    def test_one_price_for_each_point(self):
        self.check([0, 4, 5, 5], [4], REFUSED)
        self.check([0, 4, 5, 5], [4, 5], [1, 9])
        self.check([0, 4, 5, 5], [4, 5, 0], REFUSED)
        self.check([0, 4, 5, 5], [4, 5, 0, 0], REFUSED)
        self.check([0, 4, 5, 5], [], REFUSED)

    def test_prices_with_no_point(self):
        self.check([], [0], REFUSED)
        self.check([], [999], REFUSED)
        self.check([], [0, 0], REFUSED)
        self.check([], [0] * 14, REFUSED)

    def test_no_price_for_one_point(self):
        self.check([5, 9], [], REFUSED)
        self.check([5, 0], [], REFUSED)
        self.check([5, 9], [9, 0], REFUSED)

    def test_number_of_prices_with_twelve_points(self):
        self.check(TWELVE, list(range(1, 13)), [1, 78])
        self.check(TWELVE, [99] * 11, REFUSED)
        self.check(TWELVE, [99] * 12, [1, 1188])
        self.check(TWELVE, [99] * 13, REFUSED)
        self.check(TWELVE, [99] * 14, REFUSED)


class WrongTogether(AnswerCase):
    """Wrong points or a wrong spacing, together with prices that are wrong, too."""

    def test_wrong_spacing_and_wrong_prices(self):
        for spacing in (0, 1000, 4294967295):
            for wrong in ([], [4, 1], [4, 1, 3, 0], [1000, 1, 3], [4, 1, 4294967295]):
                with self.subTest(spacing=spacing, prices=wrong):
                    self.assert_answer(check_prices(spacing, list(THREE), wrong), REFUSED)

    def test_wrong_points_and_wrong_prices(self):
        too_many = [number for i in range(13) for number in (i, 1)]
        for points in ([0], [0, 4, 1], [0, 100], [1000, 4], [1, 4, 1, 5], too_many):
            for wrong in ([], [0], [1000], [4294967295], [0] * 14, [1000] * 14):
                with self.subTest(points=points, prices=wrong):
                    self.assert_answer(check_prices(3, list(points), wrong), REFUSED)

    def test_all_wrong(self):
        self.assert_answer(check_prices(0, [0, 4, 1], [1000]), REFUSED)
        self.assert_answer(check_prices(1000, [5, 4, 1, 4], []), REFUSED)


class AgainstTheWords(AnswerCase):
    """The document's words on sufficient prices, and the requirement 2, over many inputs."""

    def check(self, spacing, points, given, best):
        sufficient = plain_are_sufficient(spacing, points, given)
        answer = check_prices(spacing, points, given)
        self.assert_answer(answer, [1 if sufficient else 0, sum(given)])
        if answer[0] == 1:
            self.assertLessEqual(best, answer[1])

    def check_computed(self, spacing, points):
        computed = plain_computed_prices(spacing, points)
        self.assert_answer(check_prices(spacing, points, computed), [1, sum(computed)])
        self.assertEqual(prices(spacing, points)[2:], computed)

    def test_all_small_lists_with_all_small_prices(self):
        for points in small_lists(4, [0, 1, 3]):
            for spacing in range(1, 5):
                best = plain_best(spacing, points)[0]
                for given in itertools.product(range(4), repeat=len(points) // 2):
                    with self.subTest(spacing=spacing, points=points, prices=given):
                        self.check(spacing, points, list(given), best)

    def test_computed_prices_of_small_lists(self):
        for points in small_lists(6, [0, 1, 2]):
            for spacing in range(1, 7):
                with self.subTest(spacing=spacing, points=points):
                    self.check_computed(spacing, points)

    def test_long_lists_with_one_price_changed(self):
        for points in long_lists():
            for spacing in (1, 20, 50, 90, 170, 999):
                best = plain_best(spacing, points)[0]
                computed = plain_computed_prices(spacing, points)
                self.check_computed(spacing, points)
                for i, price in itertools.product(range(len(computed)), (-1, 1, 50)):
                    given = list(computed)
                    given[i] = max(0, given[i] + price)
                    with self.subTest(spacing=spacing, points=points, prices=given):
                        self.check(spacing, points, given, best)


class StandsByItself(AnswerCase):
    def test_nothing_is_changed_or_kept(self):
        self.assert_stands_by_itself(check_prices, 3, list(THREE), [4, 1, 3])
        self.assert_stands_by_itself(check_prices, 3, list(THREE), [4, 0, 4])
        self.assert_stands_by_itself(check_prices, 3, list(THREE), [4, 1, 1000])
        self.assert_stands_by_itself(check_prices, 3, list(THREE), [4, 1])
        self.assert_stands_by_itself(check_prices, 0, list(THREE), [4, 1, 3])
        self.assert_stands_by_itself(check_prices, 3, [4, 4, 2, 5, 0, 4], [4, 1, 3])
        self.assert_stands_by_itself(check_prices, 3, [], [])

    def test_an_error_is_the_code_alone(self):
        self.assert_answer(check_prices(3, list(THREE), [4, 1, 1000]), REFUSED)
        self.assert_answer(check_prices(0, list(THREE), [4, 1, 3]), REFUSED)
        self.assert_answer(check_prices(3, [0, 4, 2], [4]), REFUSED)


if __name__ == "__main__":
    unittest.main()
