"""The calls about one polynomial and one prime, and what they answer."""

from liftedroots.polynomial import digits_of
from liftedroots.polynomial import from_handed
from liftedroots.polynomial import is_root
from liftedroots.polynomial import is_simple_root
from liftedroots.polynomial import lifted
from liftedroots.polynomial import moved
from liftedroots.polynomial import power_of
from liftedroots.polynomial import product
from liftedroots.polynomial import roots_gone_on_to
from liftedroots.polynomial import roots_of_powers
from liftedroots.polynomial import simple_roots
from liftedroots.polynomial import times_divided
from liftedroots.polynomial import value_for
from liftedroots.polynomial import without_last_zeros
from liftedroots.slopes import ways_of

POLY = 0
PRIME = 1
VALUE = 2
VAL = 3
ROOTS = 4
NEXT = 5
COUNTS = 6
LIFT = 7
SLOPES = 8
TIMES = 9
MOVE = 10
SHOWN = 11
SIMPLE = 12

PRIMES = (2, 3, 5, 7)
MOST_NUMBERS = 5
LARGEST_NUMBER = 2000
LARGEST_K = 14
LARGEST_POWER = 5000
MOST_TIMES_LIFTED = 20
MOST_NUMBERS_OF_PRODUCT = 9
LARGEST_MOVE = 200


class UnknownCall(ValueError):
    pass


class Line:
    def __init__(self):
        self.numbers = [0, 1]
        self.prime = 2

    def answer(self, call, given):
        if call == POLY:
            return self.take_polynomial(given[1:])
        if call == PRIME:
            return self.take_prime(given[0])
        if call == VALUE:
            return [0, value_for(self.numbers, from_handed(given[0]))]
        if call == VAL:
            return self.tell_times_divided(from_handed(given[0]))
        if call == ROOTS:
            return self.tell_roots(given[0])
        if call == NEXT:
            return self.tell_roots_gone_on_to(given[0], given[1])
        if call == COUNTS:
            return self.tell_counts(given[0])
        if call == LIFT:
            return self.tell_lifted(given[0], given[1])
        if call == SLOPES:
            return self.tell_slopes()
        if call == TIMES:
            return self.take_product(given[1:])
        if call == MOVE:
            return self.take_moved(given[0])
        if call == SHOWN:
            return counted(self.numbers)
        if call == SIMPLE:
            return counted(simple_roots(self.numbers, self.prime))
        raise UnknownCall("no call has this number")

    def take_polynomial(self, handed):
        if not takes_numbers(handed):
            return [-1]
        self.numbers = polynomial_from(handed)
        return counted(self.numbers)

    def take_product(self, handed):
        if not takes_numbers(handed):
            return [-1]
        factor = polynomial_from(handed)
        # 0s at the end are left out ahead of this: what is asked is how many numbers the two polynomials have.
        if len(self.numbers) + len(factor) - 1 > MOST_NUMBERS_OF_PRODUCT:
            return [-5]
        self.numbers = product(self.numbers, factor)
        return counted(self.numbers)

    def take_moved(self, handed):
        if handed > LARGEST_MOVE:
            return [-1]
        self.numbers = moved(self.numbers, from_handed(handed))
        return counted(self.numbers)

    def take_prime(self, prime):
        if prime not in PRIMES:
            return [-1]
        self.prime = prime
        return [0]

    def tell_times_divided(self, number):
        if number == 0:
            return [-3]
        return [times_divided(number, self.prime)]

    def takes_power(self, k):
        # k is looked at first: the power of a large one would take too long to reckon.
        return 1 <= k <= LARGEST_K and power_of(self.prime, k) <= LARGEST_POWER

    def tell_roots(self, k):
        if not self.takes_power(k):
            return [-1]
        return counted(roots_of_powers(self.numbers, self.prime, k)[-1])

    def tell_roots_gone_on_to(self, k, x):
        if not self.takes_power(k):
            return [-1]
        power = power_of(self.prime, k)
        if not is_root(self.numbers, power, x):
            return [-3]
        # The next power may be above the largest one: the limit is for k alone.
        return counted(roots_gone_on_to(self.numbers, self.prime, power, x))

    def tell_counts(self, k):
        if not self.takes_power(k):
            return [-1]
        return [len(roots) for roots in roots_of_powers(self.numbers, self.prime, k)]

    def tell_lifted(self, x, times):
        if times > MOST_TIMES_LIFTED or x >= self.prime:
            return [-1]
        if not is_simple_root(self.numbers, self.prime, x):
            return [-6]
        root = lifted(self.numbers, self.prime, x, times)
        return [root] + digits_of(root, self.prime, times + 1)

    def tell_slopes(self):
        if len(self.numbers) == 0:
            return [-3]
        ways = ways_of(self.numbers, self.prime)
        told = [len(ways)]
        for way in ways:
            told.extend(way)
        return told


def counted(numbers):
    return [len(numbers)] + numbers


# The bounds are for the list as it is handed in: 0s at its end count, and signs are still within the numbers.
def takes_numbers(handed):
    return len(handed) <= MOST_NUMBERS and max(handed, default=0) <= LARGEST_NUMBER


def polynomial_from(handed):
    return without_last_zeros([from_handed(number) for number in handed])


def length_of_call(calls, at):
    if calls[at] in (POLY, TIMES):
        return 2 + calls[at + 1]
    if calls[at] in (NEXT, LIFT):
        return 3
    if calls[at] in (SLOPES, SHOWN, SIMPLE):
        return 1
    return 2


def answers(calls):
    line = Line()
    told = []
    at = 0
    while at < len(calls):
        behind = at + length_of_call(calls, at)
        told.extend(counted(line.answer(calls[at], calls[at + 1:behind])))
        at = behind
    return told
