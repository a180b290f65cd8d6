"""The calls about one polynomial and one prime, and what they answer."""

from liftedroots.polynomial import from_handed
from liftedroots.polynomial import is_root
from liftedroots.polynomial import power_of
from liftedroots.polynomial import roots_gone_on_to
from liftedroots.polynomial import roots_of_powers
from liftedroots.polynomial import times_divided
from liftedroots.polynomial import value_for
from liftedroots.polynomial import without_last_zeros

POLY = 0
PRIME = 1
VALUE = 2
VAL = 3
ROOTS = 4
NEXT = 5
COUNTS = 6

PRIMES = (2, 3, 5, 7)
MOST_NUMBERS = 5
LARGEST_NUMBER = 2000
LARGEST_K = 14
LARGEST_POWER = 5000


class UnknownCall(ValueError):
    pass


class Line:
    def __init__(self):
        self.numbers = [0, 1]
        self.prime = 2

    def answer(self, call, given):
        if call == POLY:
            return self.take_polynomial(given[1:])
        if call == PRIME:
            return self.take_prime(given[0])
        if call == VALUE:
            return [0, value_for(self.numbers, from_handed(given[0]))]
        if call == VAL:
            return self.tell_times_divided(from_handed(given[0]))
        if call == ROOTS:
            return self.tell_roots(given[0])
        if call == NEXT:
            return self.tell_roots_gone_on_to(given[0], given[1])
        if call == COUNTS:
            return self.tell_counts(given[0])
        raise UnknownCall("no call has this number")

    def take_polynomial(self, handed):
        if len(handed) > MOST_NUMBERS or max(handed, default=0) > LARGEST_NUMBER:
            return [-1]
        self.numbers = without_last_zeros([from_handed(number) for number in handed])
        return counted(self.numbers)

    def take_prime(self, prime):
        if prime not in PRIMES:
            return [-1]
        self.prime = prime
        return [0]

    def tell_times_divided(self, number):
        if number == 0:
            return [-3]
        return [times_divided(number, self.prime)]

    def takes_power(self, k):
        # k is looked at first: the power of a large one would take too long to reckon.
        return 1 <= k <= LARGEST_K and power_of(self.prime, k) <= LARGEST_POWER

    def tell_roots(self, k):
        if not self.takes_power(k):
            return [-1]
        return counted(roots_of_powers(self.numbers, self.prime, k)[-1])

    def tell_roots_gone_on_to(self, k, x):
        if not self.takes_power(k):
            return [-1]
        power = power_of(self.prime, k)
        if not is_root(self.numbers, power, x):
            return [-3]
        # The next power may be above the largest one: the limit is for k alone.
        return counted(roots_gone_on_to(self.numbers, self.prime, power, x))

    def tell_counts(self, k):
        if not self.takes_power(k):
            return [-1]
        return [len(roots) for roots in roots_of_powers(self.numbers, self.prime, k)]


def counted(numbers):
    return [len(numbers)] + numbers


def length_of_call(calls, at):
    if calls[at] == POLY:
        return 2 + calls[at + 1]
    if calls[at] == NEXT:
        return 3
    return 2


def answers(calls):
    line = Line()
    told = []
    at = 0
    while at < len(calls):
        behind = at + length_of_call(calls, at)
        told.extend(counted(line.answer(calls[at], calls[at + 1:behind])))
        at = behind
    return told
