import unittest

from tests.helper import (ask, last, move, poly, prime, shown, slopes, times, told_slopes, tried_moved, tried_product,
                          tried_slopes)

PRIMES = (2, 3, 5, 7)
POLYNOMIALS = (
    (1,), (0, 1), (6, 1), (1, 6), (4, 0, 1), (1, 0, 4), (2, 0, 1), (8, 0, 0, 1), (4, 2, 1), (4, 6, 1), (12, 0, 6, 0, 3),
    (1, 2, 4, 8, 16), (16, 8, 4, 2, 1), (2, 1, 0, 0, 2), (0, 0, 9, 3, 27), (0, 49, 0, 7), (210, 0, 0, 0, 1),
    (1, 0, 0, 0, 210), (25, 5, 1, 5, 25), (-27, 9, 0, 0, 3), (1000, -1000, 1000, -1000, 1000), (98, 18, 50, 4, 900),
    (-512, 0, 1, 0, 729), (1, 512, 1, 729, 1), (625, 1, 343), (3, 5, 7, 2, 1),
)


def put_together(one, other):
    far = {}
    for rise, length in one + other:
        far[rise] = far.get(rise, 0) + length
    return sorted(far.items())


class SlopesTest(unittest.TestCase):
    def test_at_the_beginning(self):
        self.assertEqual(ask(slopes()), [[0]])

    def test_of_0(self):
        for p in PRIMES:
            self.assertEqual(ask(prime(p), poly(), slopes(), shown())[2:], [[-3], [0]])
        self.assertEqual(last(poly(0, 0, 0), slopes()), [-3])
        self.assertEqual(last(poly(2, 1), times(), slopes()), [-3])

    def test_of_a_number_alone(self):
        for number in (1, -1, 2, 8, -1000):
            self.assertEqual(last(poly(number), slopes()), [0])

    def test_of_a_single_number_behind_0s(self):
        for numbers in ((0, 4), (0, 0, 1), (0, 0, 0, -8), (0, 0, 0, 0, 6)):
            self.assertEqual(last(poly(*numbers), slopes()), [0])

    def test_rising(self):
        self.assertEqual(last(poly(1, 4), slopes()), [1, 2, 1, 1])
        self.assertEqual(last(prime(3), poly(1, 0, 27), slopes()), [1, 3, 2, 2])

    def test_falling(self):
        self.assertEqual(last(poly(4, 1), slopes()), [1, -2, 1, 1])
        self.assertEqual(last(prime(5), poly(125, 0, 1), slopes()), [1, -3, 2, 2])

    def test_level(self):
        self.assertEqual(last(poly(1, 1), slopes()), [1, 0, 1, 1])
        self.assertEqual(last(prime(7), poly(7, 49, 14, 0, 21), slopes()), [1, 0, 1, 4])

    def test_falling_level_and_rising(self):
        self.assertEqual(last(poly(4, 1, 2, 1, 8), slopes()), [3, -2, 1, 1, 0, 1, 2, 3, 1, 1])

    def test_the_same_slope_is_one_way(self):
        self.assertEqual(last(poly(16, 8, 4, 2, 1), slopes()), [1, -1, 1, 4])
        self.assertEqual(last(poly(1, 2, 4, 8, 16), slopes()), [1, 1, 1, 4])
        self.assertEqual(last(poly(1, 1, 1, 1, 1), slopes()), [1, 0, 1, 4])
        self.assertEqual(last(poly(4, 0, 2, 0, 1), slopes()), [1, -1, 2, 4])

    def test_points_above_are_passed_by(self):
        self.assertEqual(last(poly(2, 8, 2), slopes()), [1, 0, 1, 2])
        self.assertEqual(last(poly(8, 8, 8, 1), slopes()), [1, -1, 1, 3])

    def test_numbers_0_in_between(self):
        self.assertEqual(last(poly(2, 0, 1, 0, 2), slopes()), [2, -1, 2, 2, 1, 2, 2])
        self.assertEqual(last(poly(0, 2, 0, 0, 1), slopes()), [1, -1, 3, 3])

    def test_lowest_terms(self):
        self.assertEqual(last(poly(4, 0, 0, 0, 1), slopes()), [1, -1, 2, 4])
        self.assertEqual(last(poly(1, 0, 0, 0, 64), slopes()), [1, 3, 2, 4])
        self.assertEqual(last(poly(64, 0, 0, 1), slopes()), [1, -2, 1, 3])
        self.assertEqual(last(poly(2, 0, 0, 0, 1), slopes()), [1, -1, 4, 4])

    def test_numbers_below_0(self):
        self.assertEqual(last(prime(3), poly(-9, 0, -1), slopes()), [1, -1, 1, 2])

    def test_of_the_prime_as_it_is_now(self):
        calls = [poly(210, 0, 1), slopes()]
        for p in (3, 5, 7, 11, 2):
            calls.extend([prime(p), slopes()])
        self.assertEqual(ask(*calls)[1::2], [[1, -1, 2, 2]] * 6)
        self.assertEqual(ask(poly(12, 1), slopes(), prime(3), slopes(), prime(5), slopes())[1::2],
                         [[1, -2, 1, 1], [1, -1, 1, 1], [1, 0, 1, 1]])

    def test_changes_nothing(self):
        self.assertEqual(ask(poly(2, 4), slopes(), shown(), slopes())[1:], [[1, 1, 1, 1], [2, 2, 4], [1, 1, 1, 1]])

    def test_every_polynomial(self):
        for p in PRIMES:
            for numbers in POLYNOMIALS:
                self.assertEqual(last(prime(p), poly(*numbers), slopes()), told_slopes(tried_slopes(numbers, p)),
                                 (p, numbers))

    def test_every_small_one(self):
        parts = (0, 1, 2, 4, 24)
        for place in range(1, len(parts) ** 5):
            numbers = [parts[place // len(parts) ** i % len(parts)] for i in range(5)]
            self.assertEqual(last(poly(*numbers), slopes()), told_slopes(tried_slopes(numbers, 2)), numbers)

    def test_a_products_are_those_of_both(self):
        for p in PRIMES:
            for one in POLYNOMIALS:
                for other in POLYNOMIALS:
                    both = put_together(tried_slopes(one, p), tried_slopes(other, p))
                    self.assertEqual(last(prime(p), poly(*one), times(*other), slopes()), told_slopes(both),
                                     (p, one, other))

    def test_behind_several_times_and_moves(self):
        for p in PRIMES:
            numbers = [p * p, 0, p, -1, p]
            calls = [prime(p), poly(*numbers)]
            for step in range(7):
                factor = [p ** 3, 1] if step < 4 else [-p * p]
                z = p * (step + 1) * (-1) ** step
                calls.extend([times(*factor), move(z), slopes()])
            told = ask(*calls)
            for step in range(7):
                numbers = tried_product(numbers, [p ** 3, 1] if step < 4 else [-p * p])
                numbers = tried_moved(numbers, p * (step + 1) * (-1) ** step)
                self.assertEqual(told[4 + 3 * step], told_slopes(tried_slopes(numbers, p)), (p, step))

    def test_a_prime_that_divides_very_often(self):
        calls = [poly(1, 1), *[times(512)] * 13, times(1, 512), *[times(-512)] * 13, slopes(), shown()]
        self.assertEqual(ask(*calls)[-2:], [[2, 0, 1, 1, 9, 1, 1], [3, -2 ** 234, -513 * 2 ** 234, -2 ** 243]])


if __name__ == "__main__":
    unittest.main()
