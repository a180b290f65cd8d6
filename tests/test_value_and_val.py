import unittest

from tests.helper import LARGEST, ask, last, poly, prime, tried_value, val, value


class ValueTest(unittest.TestCase):
    def test_ordinary(self):
        self.assertEqual(last(poly(1, 2, 3), value(10)), [0, 321])

    def test_for_0(self):
        self.assertEqual(last(poly(-9, 2, 3), value(0)), [0, -9])

    def test_below_0(self):
        self.assertEqual(last(poly(1, 2, 3), value(-2)), [0, 9])
        self.assertEqual(last(poly(1, 2, 3, 4), value(-2)), [0, -23])

    def test_z_as_handed_over(self):
        for z, told in ((0, 0), (1, -1), (2, 1), (3, -2), (4, 2)):
            self.assertEqual(last([2, z]), [0, told])

    def test_of_0_and_of_a_number_alone(self):
        for z in (-3, 0, 8):
            self.assertEqual(last(poly(), value(z)), [0, 0])
            self.assertEqual(last(poly(-4), value(z)), [0, -4])

    def test_the_largest_that_is_handed_in(self):
        self.assertEqual(last([2, LARGEST]), [0, -2147483648])
        self.assertEqual(last([2, LARGEST - 1]), [0, 2147483647])

    def test_large_values_are_told_whole(self):
        numbers = (-1000, 999, 1000, -1000, 1000)
        for z in (-2147483648, 2147483647):
            self.assertEqual(last(poly(*numbers), value(z)), [0, tried_value(numbers, z)])

    def test_the_prime_doesnt_matter(self):
        for p in (2, 3, 5, 7):
            self.assertEqual(last(prime(p), poly(6, 1), value(p)), [0, 6 + p])


class ValTest(unittest.TestCase):
    def test_ordinary(self):
        for p, z, times in ((2, 24, 3), (3, 54, 3), (5, 50, 2), (7, 343, 3), (2, 2, 1), (7, 14, 1)):
            self.assertEqual(last(prime(p), val(z)), [times])

    def test_the_prime_doesnt_divide(self):
        for p in (2, 3, 5, 7):
            for z in (1, -1, p + 1, -p - 1, 11):
                self.assertEqual(last(prime(p), val(z)), [0])

    def test_below_0(self):
        for p in (2, 3, 5, 7):
            self.assertEqual(last(prime(p), val(-p * p * 11)), [2])

    def test_0(self):
        for p in (2, 3, 5, 7):
            self.assertEqual(last(prime(p), val(0)), [-3])

    def test_z_as_handed_over(self):
        for z, times in ((1, 0), (2, 0), (3, 1), (4, 1), (7, 2), (8, 2)):
            self.assertEqual(last([3, z]), [times])

    def test_the_largest_that_is_handed_in(self):
        self.assertEqual(last([3, LARGEST]), [31])
        self.assertEqual(last([3, LARGEST - 1]), [0])

    def test_the_largest_powers_that_are_handed_in(self):
        for p, times in ((2, 30), (3, 19), (5, 13), (7, 11)):
            self.assertEqual(last(prime(p), val(p ** times)), [times])
            self.assertEqual(last(prime(p), val(-p ** times)), [times])

    def test_the_polynomial_doesnt_matter(self):
        self.assertEqual(ask(poly(), val(12), poly(4, 4), val(12)), [[0], [2], [2, 4, 4], [2]])


if __name__ == "__main__":
    unittest.main()
