"""Calls written out for the tests, their answers cut apart, and answers found in other ways than the program's."""

from fractions import Fraction
from itertools import groupby
from math import comb

from liftedroots.lifting import answers

LARGEST = 4294967295
LARGEST_K = {2: 12, 3: 7, 5: 5, 7: 4}


def handed(number):
    return 2 * number if number >= 0 else -2 * number - 1


def raw_poly(*numbers):
    return [0, len(numbers), *numbers]


def poly(*numbers):
    return raw_poly(*[handed(number) for number in numbers])


def prime(p):
    return [1, p]


def value(z):
    return [2, handed(z)]


def val(z):
    return [3, handed(z)]


def roots(k):
    return [4, k]


def goes_on(k, x):
    return [5, k, x]


def counts(k):
    return [6, k]


def lift(x, n):
    return [7, x, n]


def slopes():
    return [8]


def raw_times(*numbers):
    return [9, len(numbers), *numbers]


def times(*numbers):
    return raw_times(*[handed(number) for number in numbers])


def move(z):
    return [10, handed(z)]


def shown():
    return [11]


def simple():
    return [12]


def joined(calls):
    return [number for call in calls for number in call]


def cut_apart(told):
    parts = []
    at = 0
    while at < len(told):
        behind = at + 1 + told[at]
        if told[at] < 1 or behind > len(told):
            raise AssertionError(f"no answer of {told[at]} numbers at {at} in {told}")
        parts.append(told[at + 1:behind])
        at = behind
    return parts


def ask(*calls):
    parts = cut_apart(answers(joined(calls)))
    if len(parts) != len(calls):
        raise AssertionError(f"{len(calls)} calls, {len(parts)} answers")
    return parts


def last(*calls):
    return ask(*calls)[-1]


def tried_value(numbers, x):
    return sum(number * x ** i for i, number in enumerate(numbers))


def tried_roots(numbers, power):
    return [x for x in range(power) if tried_value(numbers, x) % power == 0]


def tried_product(one, other):
    """Number by number of the product: the pairs whose powers are together its power."""
    if not one or not other:
        return []
    return [sum(one[i] * other[k - i] for i in range(len(one)) if 0 <= k - i < len(other))
            for k in range(len(one) + len(other) - 1)]


def tried_moved(numbers, z):
    """By the binomial theorem: (x + z)^k has comb(k, i) z^(k - i) of the power i."""
    return [sum(numbers[k] * comb(k, i) * z ** (k - i) for k in range(i, len(numbers))) for i in range(len(numbers))]


def tried_slope_value(numbers, x):
    return sum(i * numbers[i] * x ** (i - 1) for i in range(1, len(numbers)))


def tried_simple_roots(numbers, p):
    return [x for x in tried_roots(numbers, p) if tried_slope_value(numbers, x) % p]


def tried_val(number, p):
    return max(k for k in range(number.bit_length() + 1) if number % p ** k == 0)


def height(points, i):
    """How high the lowest line between two of the points lies at i."""
    return min(Fraction(a[1]) if a[0] == b[0] else a[1] + Fraction((b[1] - a[1]) * (i - a[0]), b[0] - a[0])
               for a in points for b in points if a[0] <= i <= b[0] and (a[0] < b[0] or a[0] == i))


def tried_slopes(numbers, p):
    """By the lowest height at each power: steps of the same rise one behind another are one way."""
    points = [(i, tried_val(number, p)) for i, number in enumerate(numbers) if number]
    heights = [height(points, i) for i in range(points[0][0], points[-1][0] + 1)]
    steps = [behind - ahead for ahead, behind in zip(heights, heights[1:])]
    return [(rise, len(list(group))) for rise, group in groupby(steps)]


def told_slopes(ways):
    return [len(ways), *[part for rise, far in ways for part in (rise.numerator, rise.denominator, far)]]


def with_count(numbers):
    return [len(numbers), *numbers]
