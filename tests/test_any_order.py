"""Lists of 30 calls in any order, checked against a line that answers each of them in another way."""

import unittest

from liftedroots.lifting import answers
from tests.helper import (LARGEST, cut_apart, joined, told_slopes, tried_moved, tried_product, tried_roots,
                          tried_simple_roots, tried_slopes, tried_val, tried_value, with_count)

HANDED = {0: "numbers", 1: "p", 2: "z", 3: "z", 4: "k", 5: "kx", 6: "k", 7: "xn", 8: "", 9: "numbers", 10: "z", 11: "",
          12: ""}


def from_handed(number):
    return -(number + 1) // 2 if number % 2 else number // 2


class TriedLine:
    def __init__(self):
        self.numbers = []
        self.p = 2
        self.set_numbers([0, 1])

    def set_numbers(self, numbers):
        many = max((i + 1 for i, number in enumerate(numbers) if number), default=0)
        self.numbers = list(numbers[:many])
        return with_count(self.numbers)

    def told(self, call):
        return getattr(self, f"call_{call[0]}")(*call[1:])

    def call_0(self, many, *row):
        if many > 5 or [n for n in row if n > 2000]:
            return [-1]
        return self.set_numbers([from_handed(n) for n in row])

    def call_1(self, p):
        if p not in (2, 3, 5, 7):
            return [-1]
        self.p = p
        return [0]

    def call_2(self, z):
        return [0, tried_value(self.numbers, from_handed(z))]

    def call_3(self, z):
        return [tried_val(from_handed(z), self.p)] if z else [-3]

    def takes(self, k):
        return k in range(1, 15) and self.p ** k <= 5000

    def call_4(self, k):
        return with_count(tried_roots(self.numbers, self.p ** k)) if self.takes(k) else [-1]

    def call_5(self, k, x):
        if not self.takes(k):
            return [-1]
        if x not in tried_roots(self.numbers, self.p ** k):
            return [-3]
        return with_count([y for y in tried_roots(self.numbers, self.p ** (k + 1)) if y % self.p ** k == x])

    def call_6(self, k):
        if not self.takes(k):
            return [-1]
        return [len(tried_roots(self.numbers, self.p ** power)) for power in range(1, k + 1)]

    def call_7(self, x, n):
        if n > 20 or x >= self.p:
            return [-1]
        if x not in tried_simple_roots(self.numbers, self.p):
            return [-6]
        root = x
        for power in range(2, n + 2):
            root = [y for y in range(root, self.p ** power, self.p ** (power - 1))
                    if tried_value(self.numbers, y) % self.p ** power == 0][0]
        return [root, *[root // self.p ** i % self.p for i in range(n + 1)]]

    def call_8(self):
        return told_slopes(tried_slopes(self.numbers, self.p)) if self.numbers else [-3]

    def call_9(self, many, *row):
        if many > 5 or [n for n in row if n > 2000]:
            return [-1]
        factor = [from_handed(n) for n in row]
        while factor and not factor[-1]:
            factor.pop()
        if len(self.numbers) + len(factor) > 10:
            return [-5]
        return self.set_numbers(tried_product(self.numbers, factor))

    def call_10(self, z):
        return [-1] if z > 200 else self.set_numbers(tried_moved(self.numbers, from_handed(z)))

    def call_11(self):
        return with_count(self.numbers)

    def call_12(self):
        return with_count(tried_simple_roots(self.numbers, self.p))


class Dice:
    """Numbers that look thrown and are the same each time."""

    def __init__(self, seed):
        self.state = seed

    def below(self, bound):
        self.state = (self.state * 6364136223846793005 + 1442695040888963407) % 2 ** 64
        return (self.state >> 33) % bound

    def one_of(self, *given):
        return given[self.below(len(given))]

    def row(self):
        many = self.one_of(0, 1, 1, 2, 2, 2, 3, 3, 4, 5, 5, 6, 12)
        return [many, *[self.number() for place in range(many)]]

    def number(self):
        return self.one_of(0, 0, 1, 2, self.below(20), 4 * self.below(60), self.below(2001))

    def given(self, kind):
        if kind == "p":
            return self.one_of(2, 3, 5, 7, 2, 3, 5, 7, self.below(10), LARGEST)
        if kind == "z":
            return self.one_of(self.below(12), self.below(12), self.below(100), self.below(202), 200, 201, LARGEST)
        if kind == "k":
            return self.one_of(1, 1, 2, 2, 3, 3, 4, self.below(8), 0, 15, LARGEST)
        if kind == "x":
            return self.one_of(0, 1, self.below(3), self.below(8), self.below(60), LARGEST)
        return self.one_of(0, 1, 2, self.below(22), 20, 21, LARGEST)

    def call(self):
        number = self.one_of(0, 1, 2, 3, 4, 5, 6, 7, 8, 9, 10, 11, 12, 7, 8, 9, 10, 12)
        if HANDED[number] == "numbers":
            row = self.row()
            if self.below(20) == 0 and row[0]:
                row[-1] = 2001
            return [number, *row]
        kinds = [HANDED[number]] if len(HANDED[number]) < 2 else list(HANDED[number])
        return [number, *[self.given(kind) for kind in kinds if kind]]


class AnyOrderTest(unittest.TestCase):
    def test_thirty_calls(self):
        seen = set()
        for seed in range(300):
            dice = Dice(seed)
            calls = [dice.call() for step in range(30)]
            line = TriedLine()
            tried = [line.told(call) for call in calls]
            self.assertEqual(cut_apart(answers(joined(calls))), tried, (seed, calls))
            seen.update((call[0], min(told[0], 0)) for call, told in zip(calls, tried))
        # Every call was answered, and refused in every way it can be.
        refusals = {(0, -1), (1, -1), (3, -3), (4, -1), (5, -1), (5, -3), (6, -1), (7, -1), (7, -6), (8, -3), (9, -1),
                    (9, -5), (10, -1)}
        self.assertEqual(seen, refusals | {(call, 0) for call in range(13)})

    def test_a_line_goes_on_as_it_began(self):
        for seed in range(20):
            dice = Dice(1000 + seed)
            calls = [dice.call() for step in range(30)]
            told = answers(joined(calls))
            for many in range(1, 30):
                begun = answers(joined(calls[:many]))
                self.assertEqual(told[:len(begun)], begun)


if __name__ == "__main__":
    unittest.main()
