import unittest

from liftedroots.lifting import UnknownCall, answers
from tests.helper import (ask, counts, goes_on, joined, lift, move, poly, prime, raw_poly, raw_times, roots, shown,
                          simple, slopes, times, val, value)


class Untouchable(list):
    """A list that can be read only, so that a change which is taken back is seen too."""

    def refuse(self, *given, **named):
        raise AssertionError("what is handed in was changed")

    __setitem__ = __delitem__ = __iadd__ = __imul__ = refuse
    append = clear = extend = insert = pop = remove = reverse = sort = refuse


EVERY_CALL = (
    poly(1, 0, 1, 0), prime(5), value(-3), val(50), roots(2), goes_on(1, 3), counts(3), lift(2, 1), slopes(),
    times(5, -1), move(2), shown(), simple(),
)
EVERY_ANSWER = [
    [3, 1, 0, 1], [0], [0, 10], [2], [2, 7, 18], [1, 18], [2, 2, 2], [7, 2, 1], [1, 0, 1, 2],
    [4, 5, -1, 5, -1], [4, 15, 7, -1, -1], [4, 15, 7, -1, -1], [3, 0, 1, 3],
]
# Each of them is refused wherever it stands among the calls above.
REFUSED = (
    raw_poly(2001), poly(1, 1, 1, 1, 1, 1), prime(9), val(0), roots(0), roots(15), goes_on(14, 0), goes_on(1, 4),
    counts(6), lift(2, 21), lift(5, 0), lift(4, 20), raw_times(2001), times(0, 0, 0, 0, 0, 0), [10, 201],
)


class FormTest(unittest.TestCase):
    def test_how_many_then_these(self):
        told = answers([0, 3, 2, 0, 2, 1, 5, 4, 2, 6, 3])
        self.assertEqual(told, [4, 3, 1, 0, 1, 1, 0, 3, 2, 7, 18, 3, 2, 2, 2])

    def test_each_call_alone(self):
        self.assertEqual(answers([0, 0]), [1, 0])
        self.assertEqual(answers([0, 2, 3, 4]), [3, 2, -2, 2])
        self.assertEqual(answers([1, 7]), [1, 0])
        self.assertEqual(answers([2, 7]), [2, 0, -4])
        self.assertEqual(answers([3, 16]), [1, 3])
        self.assertEqual(answers([4, 3]), [2, 1, 0])
        self.assertEqual(answers([5, 3, 0]), [2, 1, 0])
        self.assertEqual(answers([6, 3]), [3, 1, 1, 1])
        self.assertEqual(answers([7, 0, 2]), [4, 0, 0, 0, 0])
        self.assertEqual(answers([8]), [1, 0])
        self.assertEqual(answers([9, 0]), [1, 0])
        self.assertEqual(answers([9, 2, 3, 4]), [4, 3, 0, -2, 2])
        self.assertEqual(answers([10, 3]), [3, 2, -2, 1])
        self.assertEqual(answers([11]), [3, 2, 0, 1])
        self.assertEqual(answers([12]), [2, 1, 0])

    def test_slopes_in_a_list(self):
        self.assertEqual(answers([0, 3, 4, 0, 2, 8, 8]), [4, 3, 2, 0, 1, 4, 1, -1, 2, 2, 4, 1, -1, 2, 2])

    def test_calls_that_are_handed_nothing_behind_one_another(self):
        self.assertEqual(answers([8, 11, 12, 12, 11, 8]), [1, 0, 3, 2, 0, 1, 2, 1, 0, 2, 1, 0, 3, 2, 0, 1, 1, 0])

    def test_a_refusal_is_its_number_alone(self):
        self.assertEqual(answers([0, 1, 2001]), [1, -1])
        self.assertEqual(answers([1, 4]), [1, -1])
        self.assertEqual(answers([3, 0]), [1, -3])
        self.assertEqual(answers([4, 0]), [1, -1])
        self.assertEqual(answers([5, 0, 0]), [1, -1])
        self.assertEqual(answers([5, 1, 1]), [1, -3])
        self.assertEqual(answers([6, 0]), [1, -1])
        self.assertEqual(answers([7, 0, 21]), [1, -1])
        self.assertEqual(answers([7, 1, 0]), [1, -6])
        self.assertEqual(answers([0, 0, 8]), [1, 0, 1, -3])
        self.assertEqual(answers([9, 1, 2001]), [1, -1])
        self.assertEqual(answers([10, 201]), [1, -1])
        full = [0, 5, 0, 0, 0, 0, 2, 9, 5, 0, 0, 0, 0, 2]
        self.assertEqual(answers(full + [9, 2, 0, 2])[-2:], [1, -5])

    def test_whole_numbers_in_a_list(self):
        told = answers(joined(EVERY_CALL + REFUSED))
        self.assertIs(type(told), list)
        self.assertEqual({type(number) for number in told}, {int})

    def test_no_such_call(self):
        with self.assertRaises(UnknownCall):
            answers([13, 0])


class SeveralCallsTest(unittest.TestCase):
    def test_one_behind_another(self):
        self.assertEqual(ask(*EVERY_CALL), EVERY_ANSWER)

    def test_all_is_as_it_was_behind_a_refusal(self):
        for refused in REFUSED:
            calls = [EVERY_CALL[0], EVERY_CALL[1]]
            for call in EVERY_CALL[2:]:
                calls.extend([refused, call])
            told = ask(*calls)
            self.assertEqual(told[:2] + told[3::2], EVERY_ANSWER, refused)
            self.assertEqual({len(part) for part in told[2::2]}, {1}, refused)
            self.assertTrue(all(part[0] < 0 for part in told[2::2]), refused)

    def test_all_is_as_it_was_behind_the_refusals_of_times_and_of_the_polynomial_0(self):
        nine = (prime(3), poly(0, 0, 0, 0, 1), times(2, 0, 0, 0, 1))
        told = ask(*nine, times(0, 1), shown(), val(9), slopes(), times(0, 0, 0, 1), shown(), val(9), slopes())
        as_it_was = [[9, 0, 0, 0, 0, 2, 0, 0, 0, 1], [2], [1, 0, 1, 4]]
        self.assertEqual(told[3:], [[-5], *as_it_was, [-5], *as_it_was])
        told = ask(prime(3), poly(), slopes(), shown(), val(9), lift(0, 0), shown(), val(9))
        self.assertEqual(told[2:], [[-3], [0], [2], [-6], [0], [2]])

    def test_a_refused_row_is_passed_over_whole(self):
        # The row's own numbers would be calls, if they were read as such.
        self.assertEqual(ask(raw_poly(1, 3, 1, 3, 1, 3, 1, 3, 1, 3, 1, 3), value(4)), [[-1], [0, 4]])
        self.assertEqual(ask(raw_times(1, 3, 1, 3, 1, 3, 1, 3, 1, 3, 1, 3), value(4)), [[-1], [0, 4]])

    def test_thirty_calls_of_420_numbers(self):
        self.assertEqual(answers(joined([poly(*[1] * 12)] * 30)), [1, -1] * 30)
        self.assertEqual(answers(joined([times(*[1] * 12)] * 30)), [1, -1] * 30)

    def test_thirty_calls_with_the_most_roots(self):
        told = ask(poly(), *[roots(12)] * 29)
        self.assertEqual(told[1:], [[4096, *range(4096)]] * 29)


class NothingKeptTest(unittest.TestCase):
    def test_what_is_handed_in_is_as_it_was(self):
        calls = joined(EVERY_CALL + REFUSED)
        before = list(calls)
        answers(calls)
        self.assertEqual(calls, before)

    def test_what_is_handed_in_is_never_changed(self):
        calls = joined(EVERY_CALL + REFUSED)
        self.assertEqual(answers(Untouchable(calls)), answers(calls))

    def test_the_same_list_twice(self):
        calls = joined(EVERY_CALL + REFUSED)
        self.assertEqual(answers(calls), answers(calls))

    def test_each_time_as_if_for_the_first_time(self):
        answers(joined([poly(1, 2, 3), prime(7)]))
        self.assertEqual(ask(value(9), val(8), roots(2)), [[0, 9], [3], [1, 0]])
        answers(joined([times(1, 2, 3), move(7)]))
        self.assertEqual(ask(shown(), simple(), slopes()), [[2, 0, 1], [1, 0], [0]])

    def test_answers_are_no_part_of_what_is_kept(self):
        for calls, told in (([0, 2, 2, 2], [3, 2, 1, 1]), ([11], [3, 2, 0, 1]), ([10, 2], [3, 2, 1, 1])):
            answers(calls).clear()
            self.assertEqual(answers(calls), told)


if __name__ == "__main__":
    unittest.main()
