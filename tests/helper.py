"""What the tests share: what is asked of every answer, and a plain search over all masks."""

import itertools
import unittest

REFUSED = [-22]
NO_SUCH_POINT = [-2]

# The points of the document's examples, and as many points as there may be.
THREE = [0, 4, 2, 5, 4, 4]
TWELVE = [0, 1, 5, 2, 10, 3, 15, 4, 20, 5, 25, 6, 30, 7, 35, 8, 40, 9, 45, 10, 50, 11, 55, 12]


class AnswerCase(unittest.TestCase):
    def assert_answer(self, answer, expected):
        """The answer is a list of whole numbers, never of True or False, and as expected."""
        self.assertIs(type(answer), list)
        self.assertEqual([type(number) for number in answer], [int] * len(answer))
        self.assertEqual(answer, expected)

    def assert_stands_by_itself(self, operation, *arguments):
        """The call changes nothing handed in, and a later call answers the same."""
        before = [list(a) if isinstance(a, list) else a for a in arguments]
        first = operation(*arguments)
        kept = list(first)
        self.assertEqual(list(arguments), before)
        first.append(7)
        self.assert_answer(operation(*arguments), kept)
        self.assertEqual(list(arguments), before)


# The terms of the document, written out word by word, sharing nothing with the package.


def members(mask, points):
    return [i for i in range(len(points) // 2) if mask & 2**i]


def plain_conflict(spacing, i, j, points):
    return i != j and abs(points[2 * i] - points[2 * j]) < spacing


def plain_is_valid(spacing, mask, points):
    for i, j in itertools.combinations(members(mask, points), 2):
        if plain_conflict(spacing, i, j, points):
            return False
    return True


def plain_weight(mask, points):
    return sum(points[2 * i + 1] for i in members(mask, points))


def plain_best(spacing, points):
    found = [0, 0]
    for mask in range(2 ** (len(points) // 2)):
        if plain_weight(mask, points) > found[0] and plain_is_valid(spacing, mask, points):
            found = [plain_weight(mask, points), mask]
    return found


def plain_prices_ahead(spacing, index, points, prices):
    return sum(prices[j] for j in range(index) if plain_conflict(spacing, j, index, points))


def plain_computed_prices(spacing, points):
    computed = []
    for i in range(len(points) // 2):
        ahead = plain_prices_ahead(spacing, i, points, computed)
        computed.append(max(points[2 * i + 1] - ahead, 0))
    return computed


def small_lists(end, weights):
    """Every list of points at positions below `end` with these weights."""
    for taken in itertools.product([None] + list(weights), repeat=end):
        points = []
        for position, one in enumerate(taken):
            if one is not None:
                points += [position, one]
        yield points


def long_lists():
    """Lists of 7 to 12 points, with uneven gaps and weights up to the limits."""
    for count in range(7, 13):
        for step in range(1, 8):
            points = []
            position = 0
            for i in range(count):
                points += [position, (i * i * step + 37 * i + 11 * step) % 100]
                position += 1 + (i * step + step * step) % 80
            yield points
