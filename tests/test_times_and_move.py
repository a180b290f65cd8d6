import unittest

from tests.helper import (LARGEST, ask, handed, last, move, poly, prime, raw_poly, raw_times, roots, shown, times,
                          tried_moved, tried_product, tried_value, value, with_count)

POLYNOMIALS = (
    (), (1,), (-1,), (7,), (0, 1), (0, -3), (5, 2), (-1, 0, 1), (0, 0, 4), (1, -2, 3), (0, 0, 0, 1), (9, 0, 0, -9),
    (1, 2, 3, 4, 5), (-1000, 1000, -1000, 1000, -1000), (0, 0, 0, 0, 1), (1000, 0, 0, 0, -1000),
)
FIVE = (1, -2, 0, 4, 5)
NINE = tried_product(FIVE, FIVE)


class TimesTest(unittest.TestCase):
    def test_ordinary(self):
        self.assertEqual(last(poly(1, 1), times(-1, 1)), [3, -1, 0, 1])
        self.assertEqual(last(poly(2, 3), times(5, 0, 7)), [4, 10, 15, 14, 21])

    def test_from_the_beginning(self):
        self.assertEqual(last(times(3, -4)), [3, 0, 3, -4])

    def test_every_pair(self):
        for one in POLYNOMIALS:
            for other in POLYNOMIALS:
                self.assertEqual(last(poly(*one), times(*other)), with_count(tried_product(one, other)), (one, other))

    def test_is_kept(self):
        told = ask(poly(2, 1), times(3, 1), value(10), shown(), times(-1), shown())
        self.assertEqual(told[1:], [[3, 6, 5, 1], [0, 156], [3, 6, 5, 1], [3, -6, -5, -1], [3, -6, -5, -1]])

    def test_numbers_as_handed_over(self):
        self.assertEqual(last(poly(1), raw_times(0, 1, 2, 3, 4)), [5, 0, -1, 1, -2, 2])

    def test_by_0_and_from_0(self):
        for nothing in ((), (0,), (0, 0, 0, 0, 0)):
            self.assertEqual(ask(poly(1, 2, 3), times(*nothing), shown(), value(5))[1:], [[0], [0], [0, 0]])
            self.assertEqual(ask(poly(*nothing), times(1, 2, 3), shown())[1:], [[0], [0]])
            self.assertEqual(ask(poly(), times(*nothing), shown())[1:], [[0], [0]])

    def test_nine_numbers_by_0(self):
        for nothing in ((), (0,), (0, 0), (0, 0, 0, 0, 0)):
            self.assertEqual(ask(poly(*FIVE), times(*FIVE), times(*nothing), shown())[2:], [[0], [0]])

    def test_a_polynomial_behind_0(self):
        self.assertEqual(ask(poly(), times(1, 1), poly(2, 2), times(1, 1))[1:], [[0], [2, 2, 2], [3, 2, 4, 2]])

    def test_five_numbers_and_more(self):
        self.assertEqual(last(times(1, 2, 3, 4, 5)), [6, 0, 1, 2, 3, 4, 5])
        for many in range(6, 13):
            self.assertEqual(ask(times(*[1] * many), shown()), [[-1], [2, 0, 1]])

    def test_0s_at_the_end_count_among_five(self):
        self.assertEqual(last(times(1, 2, 3, 0, 0)), [4, 0, 1, 2, 3])
        for many in range(6, 13):
            self.assertEqual(ask(times(1, *[0] * (many - 1)), times(*[0] * many), shown()), [[-1], [-1], [2, 0, 1]])

    def test_2000_and_2001(self):
        for place in range(5):
            numbers = [2] * 5
            numbers[place] = 2000
            self.assertEqual(last(poly(1), raw_times(*numbers))[1 + place], 1000)
            numbers[place] = 2001
            self.assertEqual(ask(poly(1), raw_times(*numbers), shown())[1:], [[-1], [1, 1]])
        self.assertEqual(last(poly(1), raw_times(0, 1999)), [2, 0, -1000])

    def test_the_largest_that_is_handed_in(self):
        self.assertEqual(ask(raw_times(LARGEST), raw_times(1, LARGEST - 1), shown()), [[-1], [-1], [2, 0, 1]])

    def test_at_nine_and_at_ten(self):
        for one in range(1, 6):
            ahead = [poly(*FIVE), times(*[0] * (5 - one), 1)]
            have = 5 + 5 - one
            for many in range(1, 6):
                factor = (*[0] * (many - 1), 3)
                told = ask(*ahead, times(*factor), shown())[1:]
                self.assertEqual(told[0][0], have)
                if have + many - 1 > 9:
                    self.assertEqual(told[1:], [[-5], told[0]], (have, many))
                else:
                    self.assertEqual(told[1][0], have + many - 1, (have, many))
                    self.assertEqual(told[2], told[1])

    def test_nine_numbers(self):
        told = ask(poly(*FIVE), times(*FIVE), times(0, 1), times(-2), times(1, 1, 1, 1, 1), shown())
        self.assertEqual(told[1], [9, *NINE])
        self.assertEqual(told[2:], [[-5], [9, *[-2 * n for n in NINE]], [-5], [9, *[-2 * n for n in NINE]]])

    def test_0s_at_the_end_are_not_the_polynomials(self):
        told = ask(poly(*FIVE), times(*FIVE), times(-1, 0, 0, 0, 0), times(1, 1, 0, 0, 0), shown())
        minus = [9, *[-n for n in NINE]]
        self.assertEqual(told[2:], [minus, [-5], minus])

    def test_both_refusals_at_once(self):
        ahead = (poly(*FIVE), times(*FIVE))
        for refused in (raw_times(2, 2001), raw_times(LARGEST, 2, 2, 2, 2), times(*[1] * 6), times(*[1] * 12)):
            self.assertEqual(ask(*ahead, refused, shown())[2:], [[-1], [9, *NINE]])

    def test_large_numbers_are_told_whole(self):
        told = ask(poly(-1000, 1000), *[times(-1000)] * 29)
        for many, part in enumerate(told):
            self.assertEqual(part, [2, (-1000) ** (many + 1), -(-1000) ** (many + 1)])

    def test_the_prime_stays(self):
        self.assertEqual(last(prime(5), poly(2, 1), times(-2, 1), roots(1)), [2, 2, 3])

    def test_the_factor_is_not_the_polynomial(self):
        self.assertEqual(ask(times(4, 4), times(4, 4))[1], [4, 0, 16, 32, 16])


class MoveTest(unittest.TestCase):
    def test_ordinary(self):
        self.assertEqual(last(move(3)), [2, 3, 1])
        self.assertEqual(last(poly(0, 0, 1), move(1)), [3, 1, 2, 1])
        self.assertEqual(last(poly(1, 2, 3), move(-2)), [3, 9, -10, 3])

    def test_every_polynomial(self):
        for numbers in POLYNOMIALS:
            for z in (-100, -7, -1, 0, 1, 2, 99, 100):
                self.assertEqual(last(poly(*numbers), move(z)), with_count(tried_moved(numbers, z)), (numbers, z))

    def test_z_as_handed_over(self):
        for z, told in ((0, 0), (1, -1), (2, 1), (3, -2), (4, 2)):
            self.assertEqual(last([10, z]), [2, told, 1])

    def test_0_200_and_201(self):
        self.assertEqual(ask(poly(*FIVE), [10, 0], shown())[1:], [[5, *FIVE], [5, *FIVE]])
        self.assertEqual(ask([10, 200], shown()), [[2, 100, 1], [2, 100, 1]])
        self.assertEqual(ask([10, 199], shown()), [[2, -100, 1], [2, -100, 1]])
        for z in (201, 202, 400, LARGEST - 1, LARGEST):
            self.assertEqual(ask(poly(*FIVE), [10, z], shown())[1:], [[-1], [5, *FIVE]])

    def test_0_and_a_number_alone(self):
        for z in (-100, -1, 0, 5, 100):
            self.assertEqual(ask(poly(), move(z), shown())[1:], [[0], [0]])
            self.assertEqual(ask(poly(-4), move(z), shown())[1:], [[1, -4], [1, -4]])

    def test_is_refused_for_0_too(self):
        self.assertEqual(ask(poly(), [10, 201], shown())[1:], [[-1], [0]])

    def test_there_and_back(self):
        for z in (1, 17, 100):
            told = ask(poly(*FIVE), times(*FIVE), move(z), move(-z), move(-z), move(z))
            self.assertEqual([told[3], told[5]], [[9, *NINE]] * 2)
            self.assertNotEqual(told[2], told[4])

    def test_the_value_is_that_for_x_and_z_together(self):
        for z in (-3, 8):
            for x in (-4, 0, 5):
                self.assertEqual(last(poly(*FIVE), move(z), value(x)), [0, tried_value(FIVE, x + z)])

    def test_many_moves_of_nine_numbers(self):
        told = ask(poly(*FIVE), times(*FIVE), *[move(100)] * 28)[2:]
        for many, part in enumerate(told):
            self.assertEqual(part, with_count(tried_moved(NINE, 100 * (many + 1))))

    def test_many_moves_and_times(self):
        numbers = [1000, -999, 998, 0, 1000]
        calls = [poly(*numbers)]
        for z in range(72, 100, 2):
            calls.extend([move(-z), times(-z)])
        told = ask(*calls)[1:]
        for step, z in enumerate(range(72, 100, 2)):
            numbers = tried_moved(numbers, -z)
            self.assertEqual(told[2 * step], with_count(numbers))
            numbers = tried_product(numbers, [-z])
            self.assertEqual(told[2 * step + 1], with_count(numbers))

    def test_the_prime_stays(self):
        self.assertEqual(last(prime(5), poly(1, 0, 1), move(1), roots(1)), [2, 1, 2])


class ShownTest(unittest.TestCase):
    def test_at_the_beginning(self):
        self.assertEqual(ask(shown()), [[2, 0, 1]])

    def test_of_0(self):
        self.assertEqual(last(poly(), shown()), [0])

    def test_behind_each_call_that_changes_the_polynomial(self):
        told = ask(poly(4, 0, -5, 0), shown(), times(-1, 1), shown(), move(2), shown())
        self.assertEqual(told[0::2], told[1::2])
        self.assertEqual(told[1::2], [[3, 4, 0, -5], [4, -4, 4, 5, -5], [4, -16, -36, -25, -5]])

    def test_behind_each_refusal(self):
        for refused in (raw_poly(2001), poly(*[0] * 6), times(*[0] * 6), raw_times(2001), [10, 201], prime(4)):
            self.assertEqual(ask(poly(3, 0, 2), refused, shown()), [[3, 3, 0, 2], [-1], [3, 3, 0, 2]])

    def test_changes_nothing(self):
        self.assertEqual(ask(*[shown()] * 30), [[2, 0, 1]] * 30)
        self.assertEqual(ask(prime(7), shown(), shown(), [3, handed(49)]), [[0], [2, 0, 1], [2, 0, 1], [2]])


if __name__ == "__main__":
    unittest.main()
