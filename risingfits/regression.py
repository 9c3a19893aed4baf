"""Weighted isotonic regression by pooling adjacent violators.

A measurement is handled as a pair (value, weight), a block as a triple
(weighted sum of its values, sum of its weights, size), and a rational
number as a pair (numerator, denominator) in lowest terms.
"""

NO_SUCH_MEASUREMENT = -2
OUTSIDE_LIMITS = -22
VALUE_NOT_REACHED = -33

MOST_MEASUREMENTS = 10
LARGEST_VALUE = 999
SMALLEST_WEIGHT = 1
LARGEST_WEIGHT = 9
LARGEST_DEN = 99
LARGEST_ELEMENT = 99999


def isotonic_fit(measurements):
    """Answer count, the fit of each measurement and the squared error of the fit."""
    if not measurements_within_limits(measurements):
        return [OUTSIDE_LIMITS]
    points = value_weight_pairs(measurements)
    fit = fit_of_blocks(pool_violators(points))
    answer = count_and_fit(fit)
    answer.extend(error_of_sequence(fit, points))
    return answer


def blocks(measurements):
    """Answer the number of blocks, the size of each one and the number of descents."""
    if not measurements_within_limits(measurements):
        return [OUTSIDE_LIMITS]
    points = value_weight_pairs(measurements)
    pooled = pool_violators(points)
    answer = [len(pooled)]
    for weighted_sum, weight, size in pooled:
        answer.append(size)
    answer.append(count_descents([value for value, weight in points]))
    return answer


def squared_error(den, measurements, values):
    """Answer 1 if no element values[i] / den is less than the one before, else 0, and the squared error."""
    if not measurements_within_limits(measurements):
        return [OUTSIDE_LIMITS]
    points = value_weight_pairs(measurements)
    if not (1 <= den <= LARGEST_DEN and values_within_limits(values, len(points))):
        return [OUTSIDE_LIMITS]
    sequence = [lowest_terms(numerator, den) for numerator in values]
    # With one denominator for all, the numerators alone tell which element is less.
    answer = [1 if count_descents(values) == 0 else 0]
    answer.extend(error_of_sequence(sequence, points))
    return answer


def fit_if_value(index, value, measurements):
    """Answer count and the fit of each measurement if the one at index had the given value."""
    if not measurements_within_limits(measurements):
        return [OUTSIDE_LIMITS]
    points = value_weight_pairs(measurements)
    if not 0 <= index < len(points):
        return [NO_SUCH_MEASUREMENT]
    if not 0 <= value <= LARGEST_VALUE:
        return [OUTSIDE_LIMITS]
    # The pairs are a copy, so what was handed in stays as it was.
    points[index] = (value, points[index][1])
    return count_and_fit(fit_of_blocks(pool_violators(points)))


def first_reaching(value, measurements):
    """Answer the index of the first measurement whose fit is at least the value."""
    if not measurements_within_limits(measurements):
        return [OUTSIDE_LIMITS]
    fit = fit_of_blocks(pool_violators(value_weight_pairs(measurements)))
    for index, mean in enumerate(fit):
        # The denominator is above 0, so multiplying by it keeps the order and needs no division.
        if mean[0] >= value * mean[1]:
            return [index]
    return [VALUE_NOT_REACHED]


def range_mean(first, last, measurements):
    """Answer 0 and the weighted mean of the measurements from first to last, both included."""
    if not measurements_within_limits(measurements):
        return [OUTSIDE_LIMITS]
    points = value_weight_pairs(measurements)
    if not (0 <= first < len(points) and 0 <= last < len(points)):
        return [NO_SUCH_MEASUREMENT]
    if last < first:
        return [OUTSIDE_LIMITS]
    answer = [0]
    answer.extend(weighted_mean(points[first:last + 1]))
    return answer


def measurements_within_limits(measurements):
    if len(measurements) % 2 != 0:
        return False
    if not 1 <= len(measurements) // 2 <= MOST_MEASUREMENTS:
        return False
    for value, weight in value_weight_pairs(measurements):
        if not 0 <= value <= LARGEST_VALUE:
            return False
        if not SMALLEST_WEIGHT <= weight <= LARGEST_WEIGHT:
            return False
    return True


def values_within_limits(values, count):
    if len(values) != count:
        return False
    for numerator in values:
        if not 0 <= numerator <= LARGEST_ELEMENT:
            return False
    return True


def value_weight_pairs(measurements):
    return [(measurements[k], measurements[k + 1]) for k in range(0, len(measurements), 2)]


def pool_violators(points):
    pooled = []
    for value, weight in points:
        last = (weight * value, weight, 1)
        while len(pooled) > 0 and mean_is_at_most(last, pooled[-1]):
            last = merge_blocks(pooled.pop(), last)
        pooled.append(last)
    return pooled


def mean_is_at_most(block, other):
    # The weights are above 0, so multiplying crosswise keeps the order and needs no division.
    return block[0] * other[1] <= other[0] * block[1]


def merge_blocks(block, other):
    return (block[0] + other[0], block[1] + other[1], block[2] + other[2])


def count_descents(values):
    descents = 0
    for k in range(1, len(values)):
        if values[k] < values[k - 1]:
            descents = descents + 1
    return descents


def fit_of_blocks(pooled):
    fit = []
    for weighted_sum, weight, size in pooled:
        fit.extend([lowest_terms(weighted_sum, weight)] * size)
    return fit


def weighted_mean(points):
    weighted_sum = sum([weight * value for value, weight in points])
    return lowest_terms(weighted_sum, sum([weight for value, weight in points]))


def count_and_fit(fit):
    answer = [len(fit)]
    for mean in fit:
        answer.extend(mean)
    return answer


def error_of_sequence(sequence, points):
    error = (0, 1)
    for element, point in zip(sequence, points):
        error = add_rationals(error, weighted_square(element, point))
    return error


def weighted_square(element, point):
    difference = element[0] - point[0] * element[1]
    return lowest_terms(point[1] * difference * difference, element[1] * element[1])


def add_rationals(one, other):
    return lowest_terms(one[0] * other[1] + other[0] * one[1], one[1] * other[1])


def lowest_terms(numerator, denominator):
    divisor = greatest_common_divisor(numerator, denominator)
    return (numerator // divisor, denominator // divisor)


def greatest_common_divisor(one, other):
    while other > 0:
        rest = one % other
        one = other
        other = rest
    return one
