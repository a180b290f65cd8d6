import unittest

from tests.helper import (LARGEST, LARGEST_K, ask, counts, goes_on, last, poly, prime, roots, tried_roots,
                          with_count)

POLYNOMIALS = (
    (), (1,), (4,), (-9,), (35,), (900,), (0, 1), (0, -6), (1, 1), (-1, 0, 1), (1, 0, 1), (-7, 0, 1), (2, 0, -1),
    (0, 0, 1), (0, 0, 0, 1), (0, 0, 0, 0, 1), (-1, 0, 0, 0, 1), (6, -5, 1), (0, 2, -3, 1), (210, 0, 210),
    (-8, 12, -6, 1), (17, 3, -20, 0, 5), (1000, -1000, 1000, -1000, 1000), (36, 0, -13, 0, 1), (0, 0, 49, 14, 1),
)


class PowersTest(unittest.TestCase):
    """The bounds of k, which roots, next and counts have alike; the root 0 is there modulo every power of x."""

    def told_for(self, p, k):
        return ask(prime(p), roots(k), goes_on(k, 0), counts(k))[1:]

    def test_just_at_most_5000(self):
        for p, k in LARGEST_K.items():
            self.assertEqual(self.told_for(p, k), [[1, 0], [1, 0], [1] * k])

    def test_just_above_5000(self):
        for p, k in LARGEST_K.items():
            self.assertEqual(self.told_for(p, k + 1), [[-1], [-1], [-1]])

    def test_every_k_between(self):
        for p, largest in LARGEST_K.items():
            for k in range(1, largest):
                self.assertEqual(self.told_for(p, k), [[1, 0], [1, 0], [1] * k])

    def test_no_such_k(self):
        for p in LARGEST_K:
            for k in (0, 14, 15, 16, 64, LARGEST):
                self.assertEqual(self.told_for(p, k), [[-1], [-1], [-1]])

    def test_the_power_of_the_prime_as_it_is_now(self):
        told = ask(roots(12), prime(3), roots(12), roots(7), prime(11), roots(7), prime(2), roots(12))
        self.assertEqual(told, [[1, 0], [0], [-1], [1, 0], [-1], [1, 0], [0], [1, 0]])


class RootsTest(unittest.TestCase):
    def test_ordinary(self):
        self.assertEqual(last(prime(5), poly(1, 0, 1), roots(2)), [2, 7, 18])
        self.assertEqual(last(prime(7), poly(-2, 0, 1), roots(3)), [2, 108, 235])
        self.assertEqual(last(poly(-1, 0, 1), roots(3)), [4, 1, 3, 5, 7])
        self.assertEqual(last(prime(3), poly(0, 0, 1), roots(3)), [3, 0, 9, 18])

    def test_none(self):
        self.assertEqual(last(prime(3), poly(1, 0, 1), roots(1)), [0])
        self.assertEqual(last(prime(2), poly(1, 0, 1), roots(2)), [0])

    def test_of_0_all(self):
        for p, k in LARGEST_K.items():
            self.assertEqual(last(prime(p), poly(), roots(k)), with_count(list(range(p ** k))))

    def test_of_a_number_alone_all_or_none(self):
        told = ask(prime(3), poly(-18), roots(1), roots(2), roots(3), poly(1), roots(1))
        self.assertEqual(told[2:5], [[3, 0, 1, 2], [9, *range(9)], [0]])
        self.assertEqual(told[6], [0])

    def test_as_found_by_trying(self):
        for p, largest in LARGEST_K.items():
            for numbers in POLYNOMIALS:
                told = ask(prime(p), poly(*numbers), *[roots(k) for k in range(1, largest + 1)])[2:]
                tried = [with_count(tried_roots(numbers, p ** k)) for k in range(1, largest + 1)]
                self.assertEqual(told, tried, (p, numbers))


class NextTest(unittest.TestCase):
    def test_to_one(self):
        self.assertEqual(last(prime(5), poly(1, 0, 1), goes_on(1, 2)), [1, 7])
        self.assertEqual(last(prime(5), poly(1, 0, 1), goes_on(2, 18)), [1, 68])

    def test_to_none(self):
        self.assertEqual(last(poly(1, 0, 1), goes_on(1, 1)), [0])
        self.assertEqual(last(poly(-1, 0, 1), goes_on(3, 3)), [0])

    def test_to_several(self):
        self.assertEqual(last(poly(-1, 0, 1), goes_on(3, 1)), [2, 1, 9])
        self.assertEqual(last(prime(3), poly(0, 0, 1), goes_on(1, 0)), [3, 0, 3, 6])

    def test_of_0_to_all(self):
        self.assertEqual(last(prime(7), poly(), goes_on(2, 48)), [7, 48, 97, 146, 195, 244, 293, 342])

    def test_of_a_number_alone(self):
        told = ask(prime(5), poly(25), goes_on(1, 3), goes_on(2, 24), goes_on(3, 0))
        self.assertEqual(told[2:], [[5, 3, 8, 13, 18, 23], [0], [-3]])

    def test_to_roots_of_a_power_above_5000(self):
        for p, k in LARGEST_K.items():
            x = p ** k - 1
            told = last(prime(p), poly(), goes_on(k, x))
            self.assertEqual(told, [p, *range(x, p ** (k + 1), p ** k)])

    def test_no_root(self):
        for x in (0, 1, 4):
            self.assertEqual(last(prime(5), poly(1, 0, 1), goes_on(1, x)), [-3])
        self.assertEqual(last(prime(5), poly(1, 0, 1), goes_on(2, 2)), [-3])

    def test_not_below_the_power(self):
        for x in (5 + 2, 5 + 3, 5, 57, LARGEST):
            self.assertEqual(last(prime(5), poly(1, 0, 1), goes_on(1, x)), [-3])
        for p, k in LARGEST_K.items():
            told = ask(prime(p), poly(), goes_on(k, p ** k), goes_on(1, p), goes_on(1, LARGEST))
            self.assertEqual(told[2:], [[-3], [-3], [-3]])

    def test_k_is_refused_first(self):
        for k in (0, 13, 15, LARGEST):
            self.assertEqual(last(poly(1), goes_on(k, LARGEST)), [-1])

    def test_as_found_by_trying(self):
        for p in LARGEST_K:
            for numbers in POLYNOMIALS:
                self.check_every_x(p, numbers, 1)
                self.check_every_x(p, numbers, 2)

    def check_every_x(self, p, numbers, k):
        power = p ** k
        here = tried_roots(numbers, power)
        above = tried_roots(numbers, power * p)
        for x in range(power + 2):
            tried = with_count([y for y in above if y % power == x]) if x in here else [-3]
            self.assertEqual(last(prime(p), poly(*numbers), goes_on(k, x)), tried, (p, numbers, k, x))


class CountsTest(unittest.TestCase):
    def test_ordinary(self):
        self.assertEqual(last(prime(5), poly(1, 0, 1), counts(3)), [2, 2, 2])
        self.assertEqual(last(poly(-1, 0, 1), counts(5)), [1, 2, 4, 4, 4])
        self.assertEqual(last(prime(3), poly(0, 0, 1), counts(4)), [1, 3, 3, 9])

    def test_as_many_as_k(self):
        self.assertEqual(last(prime(7), poly(-2, 0, 1), counts(1)), [2])

    def test_none(self):
        self.assertEqual(last(poly(1, 0, 1), counts(4)), [1, 0, 0, 0])

    def test_of_0(self):
        for p, largest in LARGEST_K.items():
            told = last(prime(p), poly(), counts(largest))
            self.assertEqual(told, [p ** k for k in range(1, largest + 1)])

    def test_of_a_number_alone(self):
        self.assertEqual(last(poly(-12), counts(4)), [2, 4, 0, 0])
        self.assertEqual(last(poly(1), counts(12)), [0] * 12)

    def test_as_found_by_trying(self):
        for p, largest in LARGEST_K.items():
            for numbers in POLYNOMIALS:
                tried = [len(tried_roots(numbers, p ** k)) for k in range(1, largest + 1)]
                self.assertEqual(last(prime(p), poly(*numbers), counts(largest)), tried, (p, numbers))


if __name__ == "__main__":
    unittest.main()
