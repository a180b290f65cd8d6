import unittest

from tests.helper import (LARGEST, ask, goes_on, last, lift, move, poly, prime, roots, shown, simple, times,
                          tried_moved, tried_product, tried_roots, tried_simple_roots, tried_slope_value, tried_value,
                          with_count)

PRIMES = (2, 3, 5, 7)
POLYNOMIALS = (
    (), (1,), (4,), (-9,), (35,), (210,), (0, 1), (0, -6), (1, 1), (-1, 0, 1), (1, 0, 1), (-7, 0, 1), (2, 0, -1),
    (0, 0, 1), (0, 1, 1), (0, -1, 0, 1), (-1, 0, 0, 0, 1), (6, -5, 1), (0, 2, -3, 1), (210, 0, 210), (-8, 12, -6, 1),
    (17, 3, -20, 0, 5), (1000, -1000, 1000, -1000, 1000), (36, 0, -13, 0, 1), (0, 0, 49, 14, 1), (2, 3, 5, 7, 11),
)


def digits(number, p, many):
    return [number // p ** i % p for i in range(many)]


class LiftTest(unittest.TestCase):
    def test_ordinary(self):
        self.assertEqual(last(prime(5), poly(1, 0, 1), lift(2, 1)), [7, 2, 1])
        self.assertEqual(last(prime(5), poly(1, 0, 1), lift(2, 3)), [182, 2, 1, 2, 1])
        self.assertEqual(last(prime(7), poly(-2, 0, 1), lift(3, 2)), [108, 3, 1, 2])
        self.assertEqual(last(prime(7), poly(-2, 0, 1), lift(4, 2)), [235, 4, 5, 4])

    def test_0_times(self):
        self.assertEqual(last(prime(5), poly(1, 0, 1), lift(3, 0)), [3, 3])
        self.assertEqual(last(lift(0, 0)), [0, 0])

    def test_0s_at_the_end(self):
        self.assertEqual(last(lift(0, 3)), [0, 0, 0, 0, 0])
        self.assertEqual(last(poly(-5, 1), lift(1, 20)), [5, 1, 0, 1, *[0] * 18])
        for p in PRIMES:
            self.assertEqual(last(prime(p), poly(-1, 1), lift(1, 20)), [1, 1, *[0] * 20])
            self.assertEqual(last(prime(p), poly(-p, 1), lift(0, 20)), [p, 0, 1, *[0] * 19])

    def test_no_digit_is_0(self):
        for p in PRIMES:
            self.assertEqual(last(prime(p), poly(1, 1), lift(p - 1, 20)), [p ** 21 - 1, *[p - 1] * 21])

    def test_20_and_21(self):
        for p in PRIMES:
            ahead = (prime(p), poly(1, 1))
            self.assertEqual(len(last(*ahead, lift(p - 1, 20))), 22)
            for n in (21, 22, 40, LARGEST - 1, LARGEST):
                self.assertEqual(ask(*ahead, lift(p - 1, n), shown())[2:], [[-1], [2, 1, 1]])

    def test_x_below_p_and_not_below(self):
        for p in PRIMES:
            ahead = (prime(p), poly(1, 1))
            self.assertEqual(last(*ahead, lift(p - 1, 0)), [p - 1, p - 1])
            for x in (p, p + 1, 2 * p - 1, p * p - 1, LARGEST - 1, LARGEST):
                for n in (0, 5, 20, 21, LARGEST):
                    self.assertEqual(last(*ahead, lift(x, n)), [-1])

    def test_x_at_p_goes_on_from_0_and_is_refused(self):
        for p in PRIMES:
            self.assertEqual(ask(prime(p), lift(0, 1), lift(p, 1))[1:], [[0, 0, 0], [-1]])

    def test_no_root(self):
        for x in (0, 1, 4):
            self.assertEqual(last(prime(5), poly(1, 0, 1), lift(x, 3)), [-6])
        self.assertEqual(last(lift(1, 0)), [-6])

    def test_a_root_that_is_not_simple(self):
        for p in PRIMES:
            for n in (0, 1, 20):
                self.assertEqual(last(prime(p), poly(0, 0, 1), lift(0, n)), [-6])
                self.assertEqual(last(prime(p), poly(p * p, 0, 1), lift(0, n)), [-6])
                self.assertEqual(last(prime(p), poly(0, p), lift(1, n)), [-6])
        # The one goes on to all, the other to none.
        self.assertEqual(ask(poly(-1, 0, 1), goes_on(1, 1), lift(1, 1))[1:], [[2, 1, 3], [-6]])
        self.assertEqual(ask(poly(1, 0, 1), goes_on(1, 1), lift(1, 1))[1:], [[0], [-6]])
        self.assertEqual(last(prime(7), poly(1, -2, 1), lift(1, 4)), [-6])

    def test_simple_beside_one_that_is_not(self):
        told = ask(prime(3), poly(0, 0, -1, 1), roots(1), lift(0, 2), lift(1, 2))
        self.assertEqual(told[2:], [[2, 0, 1], [-6], [1, 1, 0, 0]])

    def test_of_0(self):
        for p in PRIMES:
            for x in range(p):
                for n in (0, 20):
                    self.assertEqual(last(prime(p), poly(), lift(x, n)), [-6])
            self.assertEqual(ask(prime(p), poly(), lift(p, 0), lift(0, 21))[2:], [[-1], [-1]])

    def test_of_a_number_alone(self):
        for p in PRIMES:
            for number in (1, p, p * p):
                self.assertEqual(last(prime(p), poly(number), lift(0, 0)), [-6])

    def test_both_refusals_at_once(self):
        self.assertEqual(ask(poly(1), lift(0, 21), lift(2, 0), lift(LARGEST, LARGEST))[1:], [[-1], [-1], [-1]])

    def test_a_root_of_an_earlier_prime(self):
        told = ask(prime(7), lift(0, 1), move(-6), lift(6, 1), prime(5), lift(6, 1), lift(1, 1))
        self.assertEqual(told[3:], [[6, 6, 0], [0], [-1], [6, 1, 1]])

    def test_every_x_as_found_by_trying(self):
        for p in PRIMES:
            for numbers in POLYNOMIALS:
                here = tried_simple_roots(numbers, p)
                for n in (0, 1, 2, 3):
                    above = tried_roots(numbers, p ** (n + 1)) if here else []
                    told = ask(prime(p), poly(*numbers), *[lift(x, n) for x in range(p)])[2:]
                    for x in range(p):
                        self.check_tried(told[x], [y for y in above if y % p == x], x in here, p, n)

    def check_tried(self, told, gone_on_to, is_simple, p, n):
        if not is_simple:
            self.assertEqual(told, [-6])
            return
        self.assertEqual(len(gone_on_to), 1)
        self.assertEqual(told, [gone_on_to[0], *digits(gone_on_to[0], p, n + 1)])

    def check_is_the_root(self, told, numbers, p, x, n):
        # A simple root goes on to just one root: what is a root and leaves x is the one that is asked for.
        self.assertTrue(0 <= told[0] < p ** (n + 1))
        self.assertEqual(told[0] % p, x)
        self.assertEqual(tried_value(numbers, told[0]) % p ** (n + 1), 0)
        self.assertEqual(told[1:], digits(told[0], p, n + 1))

    def test_every_n(self):
        for p in PRIMES:
            for numbers in POLYNOMIALS:
                for x in tried_simple_roots(numbers, p):
                    told = ask(prime(p), poly(*numbers), *[lift(x, n) for n in range(21)])[2:]
                    for n in range(21):
                        self.check_is_the_root(told[n], numbers, p, x, n)

    def test_behind_times_and_moves(self):
        for p in PRIMES:
            numbers = tried_moved(tried_product((-1, 1, 0, 3, 1), (p, 1, -1000, 999, 1)), -77)
            ahead = (prime(p), poly(-1, 1, 0, 3, 1), times(p, 1, -1000, 999, 1), move(-77))
            for x in tried_simple_roots(numbers, p):
                self.check_is_the_root(last(*ahead, lift(x, 20)), numbers, p, x, 20)

    def test_changes_nothing(self):
        told = ask(prime(5), poly(1, 0, 1), lift(2, 20), shown(), lift(0, 1), shown(), lift(2, 1))
        self.assertEqual([told[3], told[5], told[6]], [[3, 1, 0, 1], [3, 1, 0, 1], [7, 2, 1]])


class SimpleTest(unittest.TestCase):
    def test_at_the_beginning(self):
        self.assertEqual(ask(simple()), [[1, 0]])

    def test_none(self):
        self.assertEqual(last(prime(3), poly(1, 0, 1), simple()), [0])
        for p in PRIMES:
            self.assertEqual(last(prime(p), poly(0, 0, 1), simple()), [0])

    def test_one(self):
        self.assertEqual(last(prime(7), poly(-4, 1), simple()), [1, 4])
        self.assertEqual(last(prime(3), poly(0, 0, -1, 1), simple()), [1, 1])

    def test_several(self):
        self.assertEqual(last(prime(5), poly(1, 0, 1), simple()), [2, 2, 3])
        self.assertEqual(last(prime(7), poly(6, -5, 1), simple()), [2, 2, 3])

    def test_all(self):
        # x to the power of p, less x, has them all.
        self.assertEqual(last(poly(0, -1, 1), simple()), [2, 0, 1])
        self.assertEqual(last(prime(3), poly(0, -1, 0, 1), simple()), [3, 0, 1, 2])
        self.assertEqual(last(prime(5), poly(-1, 0, 0, 0, 1), times(0, 1), simple()), [5, *range(5)])
        told = last(prime(7), poly(-1, 0, 0, 1), times(1, 0, 0, 1), times(0, 1), simple())
        self.assertEqual(told, [7, *range(7)])

    def test_of_0_and_of_a_number_alone(self):
        for p in PRIMES:
            for numbers in ((), (1,), (p,), (-p * p,)):
                self.assertEqual(last(prime(p), poly(*numbers), simple()), [0])

    def test_the_slope_is_divided_by_p_for_each_x(self):
        for p in PRIMES:
            self.assertEqual(last(prime(p), poly(0, p), simple()), [0])
            self.assertEqual(last(prime(p), poly(p, 0, 0, p), simple()), [0])

    def test_of_the_prime_as_it_is_now(self):
        told = ask(poly(-6, 1, 1), simple(), prime(3), simple(), prime(5), simple(), prime(7), simple())
        self.assertEqual(told[1::2], [[2, 0, 1], [2, 0, 2], [0], [2, 2, 4]])

    def test_every_polynomial(self):
        for p in PRIMES:
            for numbers in POLYNOMIALS:
                told = last(prime(p), poly(*numbers), simple())
                self.assertEqual(told, with_count(tried_simple_roots(numbers, p)), (p, numbers))

    def test_just_those_that_lift(self):
        for p in PRIMES:
            for numbers in POLYNOMIALS:
                told = ask(prime(p), poly(*numbers), simple(), *[lift(x, 0) for x in range(p)])[2:]
                self.assertEqual(told[0], with_count([x for x in range(p) if told[1 + x] != [-6]]))

    def test_behind_times_and_moves(self):
        for p in PRIMES:
            for one in POLYNOMIALS:
                numbers = tried_moved(tried_product(one, (3, -1, 2, 1)), 13)
                told = last(prime(p), poly(*one), times(3, -1, 2, 1), move(13), simple())
                tried = [x for x in range(p) if tried_value(numbers, x) % p == 0 and tried_slope_value(numbers, x) % p]
                self.assertEqual(told, with_count(tried), (p, one))


if __name__ == "__main__":
    unittest.main()
