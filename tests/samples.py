"""What several tests share: measurements to try, and what the document's words say of them.

Nothing here draws on the program: what it answers is held against these.
"""

from fractions import Fraction
from itertools import product

TOO_LARGE = 4294967295


class UntouchableList(list):
    """A list that may be read but not changed, not for a while either."""

    def refuse(self, *arguments, **keywords):
        raise AssertionError("what was handed in is changed")

    append = extend = insert = remove = pop = clear = sort = reverse = refuse
    __setitem__ = __delitem__ = __iadd__ = __imul__ = refuse


def pairs(measurements):
    return list(zip(measurements[0::2], measurements[1::2], strict=True))


def flat(points):
    return [number for point in points for number in point]


def of_weight(weight, values):
    return flat([(value, weight) for value in values])


def weighted_mean(points):
    return Fraction(
        sum(weight * value for value, weight in points),
        sum(weight for value, weight in points),
    )


def rationals(numbers):
    return [Fraction(numerator, denominator) for numerator, denominator in pairs(numbers)]


def is_nondecreasing(sequence):
    return all(one <= other for one, other in zip(sequence, sequence[1:]))


def error_of(sequence, points):
    return sum(
        (weight * (element - value) ** 2 for element, (value, weight) in zip(sequence, points, strict=True)),
        Fraction(0),
    )


def max_min_fit(points):
    """The fits as requirement 2 words them."""
    count = len(points)
    return [
        max(
            min(weighted_mean(points[a:b + 1]) for b in range(i, count))
            for a in range(i + 1)
        )
        for i in range(count)
    ]


def every_list(count, values, weights):
    for points in product(product(values, weights), repeat=count):
        yield flat(points)


def scattered_numbers():
    """Numbers from 0 to 8388607 without end, the same ones at each run."""
    state = 20261
    while True:
        state = (state * 1103515245 + 12345) % 2 ** 31
        yield state >> 8


def scattered_lists(how_many, largest_value):
    """Lists of 1 to 10 measurements, the same ones at each run."""
    numbers = scattered_numbers()
    for number in range(how_many):
        count = number % 10 + 1
        yield flat([(next(numbers) % (largest_value + 1), next(numbers) % 9 + 1) for _ in range(count)])


def many_lists():
    for count in (1, 2, 3):
        yield from every_list(count, (0, 1, 2), (1, 2, 9))
    yield from every_list(4, (0, 1, 3), (1, 3))
    yield from every_list(6, (0, 1, 2), (1,))
    yield from scattered_lists(200, 3)
    yield from scattered_lists(200, 999)


def lists_outside_limits():
    """Pairs of what is wrong and a list that is outside the limits for that reason alone."""
    yield "empty", []
    for length in (1, 3, 7, 19, 21, 23):
        yield f"{length} integers", [1] * length
    yield "11 measurements", [1] * 22
    yield "11 measurements that rise", flat([(value, 1) for value in range(11)])
    for count in (1, 3, 10):
        for place in sorted({0, count // 2, count - 1}):
            for value in (1000, TOO_LARGE):
                yield f"value {value} at {place} of {count}", with_number([5, 2] * count, 2 * place, value)
            for weight in (0, 10, TOO_LARGE):
                yield f"weight {weight} at {place} of {count}", with_number([5, 2] * count, 2 * place + 1, weight)


def with_number(numbers, place, number):
    return numbers[:place] + [number] + numbers[place + 1:]


def lists_within_and_outside_limits():
    return [*scattered_lists(40, 9), *(wrong for what, wrong in lists_outside_limits())]


def check_refusals(case, call):
    for what, measurements in lists_outside_limits():
        with case.subTest(what):
            case.assertEqual(call(measurements), [-22])


def check_left_as_it_was(case, call):
    for measurements in lists_within_and_outside_limits():
        handed_in = UntouchableList(measurements)
        call(handed_in)
        case.assertEqual(handed_in, measurements)


def check_second_call(case, call):
    lists = lists_within_and_outside_limits()
    first_answers = [call(measurements) for measurements in lists]
    kept = [list(answer) for answer in first_answers]
    # An answer that is changed by the caller must not show in a later one.
    for answer in first_answers:
        answer.clear()
    case.assertEqual([call(measurements) for measurements in lists], kept)
