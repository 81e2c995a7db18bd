"""Selections of weighted points on a line that keep a minimum spacing."""

LEAST_SPACING = 1
MOST_SPACING = 999
MOST_POINTS = 12
MOST_POSITION = 999
MOST_WEIGHT = 99
MOST_PRICE = 999


def out_of_limits():
    """The answer when an argument is outside its limits."""
    return [-22]


def no_such_point():
    """The answer when the point doesn't exist."""
    return [-2]


def positions_of(points):
    """The position of each point."""
    return points[0::2]


def weights_of(points):
    """The weight of each point."""
    return points[1::2]


def are_between(numbers, least, most):
    """Whether every number is at least `least` and at most `most`."""
    return all([least <= number <= most for number in numbers])


def are_increasing(numbers):
    """Whether every number is greater than the one before it."""
    return all([numbers[i - 1] < numbers[i] for i in range(1, len(numbers))])


def are_points(points):
    """Whether the list is a list of points within its limits."""
    if len(points) % 2 != 0 or len(points) > 2 * MOST_POINTS:
        return False
    positions = positions_of(points)
    return (
        are_between(positions, 0, MOST_POSITION)
        and are_increasing(positions)
        and are_between(weights_of(points), 0, MOST_WEIGHT)
    )


def are_within_limits(spacing, points):
    """Whether the arguments that every operation has are within their limits."""
    return LEAST_SPACING <= spacing <= MOST_SPACING and are_points(points)


def are_prices(numbers, count):
    """Whether the list is a list of prices within their limits for `count` points."""
    return len(numbers) == count and are_between(numbers, 0, MOST_PRICE)


def in_conflict(spacing, position, other):
    """Whether two different points at these positions conflict."""
    return abs(position - other) < spacing


def count_of_free_before(spacing, positions, index):
    """How many of the points ahead of this one don't conflict with it."""
    # Positions increase, so these are always the first ones of the list.
    count = index
    while count > 0 and in_conflict(spacing, positions[count - 1], positions[index]):
        count = count - 1
    return count


def best_weight_and_mask(spacing, positions, weights):
    """The weight and the mask of the best selection of these points."""
    # best_weights[k] and best_masks[k] tell of the first k points alone.
    best_weights = [0]
    best_masks = [0]
    for i in range(len(positions)):
        free = count_of_free_before(spacing, positions, i)
        weight = best_weights[free] + weights[i]
        # With equal weights, the set without point i has the smaller mask.
        if weight > best_weights[i]:
            best_weights.append(weight)
            best_masks.append(best_masks[free] | (1 << i))
        else:
            best_weights.append(best_weights[i])
            best_masks.append(best_masks[i])
    return [best_weights[-1], best_masks[-1]]


def members_of(mask, count):
    """The indexes of the points in the set, out of `count` points."""
    return [i for i in range(count) if (mask >> i) & 1 == 1]


def weight_of(members, weights):
    """The sum of the weights of these points."""
    return sum([weights[i] for i in members])


def is_valid(spacing, positions):
    """Whether no two of these increasing positions conflict."""
    # Neighbours are the closest pairs: where none of them conflict, none do.
    for i in range(1, len(positions)):
        if in_conflict(spacing, positions[i - 1], positions[i]):
            return False
    return True


def price_ahead(spacing, positions, point_prices, index):
    """The sum of the prices of all earlier points that conflict with this one."""
    free = count_of_free_before(spacing, positions, index)
    return sum(point_prices[free:index])


def computed_prices(spacing, positions, weights):
    """The computed price of each point."""
    computed = []
    for i in range(len(positions)):
        ahead = price_ahead(spacing, positions, computed, i)
        computed.append(max(0, weights[i] - ahead))
    return computed


def mask_of_taken(spacing, positions, order):
    """The mask when, in this order, each point without conflict with one taken before is taken."""
    mask = 0
    taken = []
    for i in order:
        if not any([in_conflict(spacing, positions[i], other) for other in taken]):
            taken.append(positions[i])
            mask = mask | (1 << i)
    return mask


def price_selection(spacing, positions, computed):
    """The mask of the price selection."""
    last = len(positions) - 1
    order = [i for i in range(last, -1, -1) if computed[i] > 0]
    return mask_of_taken(spacing, positions, order)


def are_sufficient(spacing, positions, weights, point_prices):
    """Whether every weight is paid for by its own price and the earlier ones in conflict."""
    for i in range(len(positions)):
        ahead = price_ahead(spacing, positions, point_prices, i)
        if weights[i] > point_prices[i] + ahead:
            return False
    return True


def by_decreasing_weight(weights):
    """The indexes of the points by decreasing weight, equal weights by index."""
    return sorted(range(len(weights)), key=lambda i: (-weights[i], i))


def without_one(numbers, index):
    """The same numbers but for the one at this index, in a list of their own."""
    return numbers[:index] + numbers[index + 1 :]


def best_selection(spacing, points):
    """The weight of the best selection and its mask, or an error code alone."""
    if not are_within_limits(spacing, points):
        return out_of_limits()
    return best_weight_and_mask(spacing, positions_of(points), weights_of(points))


def evaluate_selection(spacing, mask, points):
    """1 if the set is valid or else 0, and its weight, or an error code alone."""
    if not are_within_limits(spacing, points):
        return out_of_limits()
    positions = positions_of(points)
    weights = weights_of(points)
    if mask >> len(positions) != 0:
        return out_of_limits()
    members = members_of(mask, len(positions))
    valid = is_valid(spacing, [positions[i] for i in members])
    return [1 if valid else 0, weight_of(members, weights)]


def prices(spacing, points):
    """The computed prices' sum, the price selection and each price, or an error code alone."""
    if not are_within_limits(spacing, points):
        return out_of_limits()
    positions = positions_of(points)
    computed = computed_prices(spacing, positions, weights_of(points))
    return [sum(computed), price_selection(spacing, positions, computed)] + computed


def check_prices(spacing, points, prices):
    """1 if the prices are sufficient or else 0, and their sum, or an error code alone."""
    if not are_within_limits(spacing, points):
        return out_of_limits()
    positions = positions_of(points)
    if not are_prices(prices, len(positions)):
        return out_of_limits()
    sufficient = are_sufficient(spacing, positions, weights_of(points), prices)
    return [1 if sufficient else 0, sum(prices)]


def greedy_selection(spacing, points):
    """The weight of the greedy selection and its mask, or an error code alone."""
    if not are_within_limits(spacing, points):
        return out_of_limits()
    positions = positions_of(points)
    weights = weights_of(points)
    mask = mask_of_taken(spacing, positions, by_decreasing_weight(weights))
    return [weight_of(members_of(mask, len(positions)), weights), mask]


def max_count(spacing, points):
    """The greatest number of points of a valid set, or an error code alone."""
    if not are_within_limits(spacing, points):
        return out_of_limits()
    positions = positions_of(points)
    # Where each point weighs 1, the weight of a set is the number of its points.
    best = best_weight_and_mask(spacing, positions, [1] * len(positions))
    return [best[0]]


def marginal_weight(spacing, index, points):
    """How much the best selection loses without this point, or an error code alone."""
    if not are_within_limits(spacing, points):
        return out_of_limits()
    positions = positions_of(points)
    weights = weights_of(points)
    if index >= len(positions):
        return no_such_point()
    best = best_weight_and_mask(spacing, positions, weights)
    rest = best_weight_and_mask(spacing, without_one(positions, index), without_one(weights, index))
    return [best[0] - rest[0]]
