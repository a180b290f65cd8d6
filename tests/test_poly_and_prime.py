import unittest

from tests.helper import LARGEST, ask, handed, last, poly, prime, raw_poly, roots, value


class PolyTest(unittest.TestCase):
    def test_is_shown(self):
        self.assertEqual(last(poly(3, 0, 7)), [3, 3, 0, 7])

    def test_is_kept(self):
        self.assertEqual(last(poly(3, 0, 7), value(10)), [0, 703])

    def test_replaces_the_one_before(self):
        self.assertEqual(ask(poly(1, 1), poly(5), value(9)), [[2, 1, 1], [1, 5], [0, 5]])

    def test_numbers_below_0(self):
        self.assertEqual(last(poly(-1, 2, -3, -1000)), [4, -1, 2, -3, -1000])

    def test_numbers_as_handed_over(self):
        self.assertEqual(last(raw_poly(0, 1, 2, 3, 4)), [5, 0, -1, 1, -2, 2])

    def test_no_numbers(self):
        self.assertEqual(ask(poly(), value(7)), [[0], [0, 0]])

    def test_zeros_at_the_end_are_left_out(self):
        self.assertEqual(last(poly(4, 0, 5, 0, 0)), [3, 4, 0, 5])

    def test_all_0(self):
        for many in range(1, 6):
            self.assertEqual(last(poly(*[0] * many)), [0])

    def test_zeros_ahead_stay(self):
        self.assertEqual(last(poly(0, 0, 0, 0, 1)), [5, 0, 0, 0, 0, 1])

    def test_five_numbers(self):
        self.assertEqual(last(poly(1, 2, 3, 4, 5)), [5, 1, 2, 3, 4, 5])

    def test_more_than_five_numbers(self):
        for many in range(6, 13):
            self.assertEqual(ask(poly(*[1] * many), value(6)), [[-1], [0, 6]])

    def test_six_numbers_that_end_with_0(self):
        self.assertEqual(ask(poly(1, 2, 3, 4, 5, 0), value(6)), [[-1], [0, 6]])

    def test_2000_and_2001(self):
        for place in range(5):
            numbers = [2] * 5
            numbers[place] = 2000
            self.assertEqual(last(raw_poly(*numbers))[1 + place], 1000)
            numbers[place] = 2001
            self.assertEqual(ask(raw_poly(*numbers), value(6)), [[-1], [0, 6]])

    def test_1999_is_the_least_number(self):
        self.assertEqual(last(raw_poly(0, 1999)), [2, 0, -1000])

    def test_the_largest_that_is_handed_in(self):
        self.assertEqual(ask(raw_poly(1, LARGEST), value(6)), [[-1], [0, 6]])

    def test_refused_leaves_the_one_before(self):
        told = ask(poly(5, 1), raw_poly(2001), poly(*[3] * 6), value(1))
        self.assertEqual(told, [[2, 5, 1], [-1], [-1], [0, 6]])

    def test_the_prime_stays(self):
        self.assertEqual(last(prime(5), poly(1, 0, 1), roots(1)), [2, 2, 3])


class PrimeTest(unittest.TestCase):
    def test_the_four_primes(self):
        for p in (2, 3, 5, 7):
            self.assertEqual(ask(prime(p), poly(), roots(1)), [[0], [0], [p, *range(p)]])

    def test_others(self):
        others = [0, 1, 4, 6, 8, 9, 10, 11, 13, 14, 15, 25, 49, 4294967291, LARGEST]
        for p in others:
            self.assertEqual(ask(prime(3), prime(p), poly(), roots(1)), [[0], [-1], [0], [3, 0, 1, 2]])

    def test_isnt_handed_over_doubled(self):
        self.assertEqual(last(prime(handed(5))), [-1])

    def test_the_polynomial_stays(self):
        self.assertEqual(last(poly(1, 2), prime(7), value(3)), [0, 7])


class BeginningTest(unittest.TestCase):
    def test_the_polynomial_is_x(self):
        for z in (-5, 0, 1, 12):
            self.assertEqual(last(value(z)), [0, z])

    def test_the_prime_is_2(self):
        self.assertEqual(last(poly(), roots(2)), [4, 0, 1, 2, 3])


if __name__ == "__main__":
    unittest.main()
