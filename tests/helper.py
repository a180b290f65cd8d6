"""Calls written out for the tests, their answers cut apart, and roots found by trying every number."""

from liftedroots.lifting import answers

LARGEST = 4294967295
LARGEST_K = {2: 12, 3: 7, 5: 5, 7: 4}


def handed(number):
    return 2 * number if number >= 0 else -2 * number - 1


def raw_poly(*numbers):
    return [0, len(numbers), *numbers]


def poly(*numbers):
    return raw_poly(*[handed(number) for number in numbers])


def prime(p):
    return [1, p]


def value(z):
    return [2, handed(z)]


def val(z):
    return [3, handed(z)]


def roots(k):
    return [4, k]


def goes_on(k, x):
    return [5, k, x]


def counts(k):
    return [6, k]


def joined(calls):
    return [number for call in calls for number in call]


def cut_apart(told):
    parts = []
    at = 0
    while at < len(told):
        behind = at + 1 + told[at]
        if told[at] < 1 or behind > len(told):
            raise AssertionError(f"no answer of {told[at]} numbers at {at} in {told}")
        parts.append(told[at + 1:behind])
        at = behind
    return parts


def ask(*calls):
    parts = cut_apart(answers(joined(calls)))
    if len(parts) != len(calls):
        raise AssertionError(f"{len(calls)} calls, {len(parts)} answers")
    return parts


def last(*calls):
    return ask(*calls)[-1]


def tried_value(numbers, x):
    return sum(number * x ** i for i, number in enumerate(numbers))


def tried_roots(numbers, power):
    return [x for x in range(power) if tried_value(numbers, x) % power == 0]


def with_count(numbers):
    return [len(numbers), *numbers]
