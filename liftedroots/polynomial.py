"""Polynomials, told as a list of their numbers, that of the power 0 first, and their roots modulo powers."""


def from_handed(handed):
    if handed % 2 == 0:
        return handed // 2
    return -((handed + 1) // 2)


def without_last_zeros(numbers):
    kept = list(numbers)
    while len(kept) > 0 and kept[-1] == 0:
        kept.pop()
    return kept


def value_for(numbers, x):
    total = 0
    for number in reversed(numbers):
        total = total * x + number
    return total


def product(one, other):
    # The polynomial 0 has no numbers, and so the count below, which is right for all others, isn't right for it.
    if len(one) == 0 or len(other) == 0:
        return []
    numbers = [0] * (len(one) + len(other) - 1)
    for i, left in enumerate(one):
        for j, right in enumerate(other):
            numbers[i + j] = numbers[i + j] + left * right
    return numbers


# As a value is reckoned from the last power down, but with the polynomial z + x in the place of a number.
def moved(numbers, z):
    found = []
    for number in reversed(numbers):
        found = plus_number(product(found, [z, 1]), number)
    return found


def plus_number(numbers, number):
    if len(numbers) == 0:
        return [number]
    return [numbers[0] + number] + numbers[1:]


def slope_of(numbers):
    return [power * number for power, number in enumerate(numbers) if power > 0]


# Every power of the prime divides 0: whoever asks leaves it out, or this would never end.
def times_divided(number, prime):
    rest = number
    times = 0
    while rest % prime == 0:
        rest = rest // prime
        times = times + 1
    return times


def power_of(prime, k):
    power = 1
    for step in range(k):
        power = power * prime
    return power


def is_root(numbers, power, x):
    return 0 <= x < power and value_for(numbers, x) % power == 0


def roots_gone_on_to(numbers, prime, power, x):
    above = power * prime
    return [y for y in range(x, above, power) if is_root(numbers, above, y)]


# A root modulo the next power leaves, divided by this one, a root modulo this one: so none is missed.
def roots_of_next_power(numbers, prime, power, roots):
    found = []
    for root in roots:
        found.extend(roots_gone_on_to(numbers, prime, power, root))
    return sorted(found)


def roots_of_powers(numbers, prime, k):
    # Modulo 1 there is the one root 0, whatever the polynomial is, and each root modulo p goes on from it.
    roots = [0]
    power = 1
    lists = []
    for step in range(k):
        roots = roots_of_next_power(numbers, prime, power, roots)
        power = power * prime
        lists.append(roots)
    return lists


def is_simple_root(numbers, prime, x):
    return is_root(numbers, prime, x) and value_for(slope_of(numbers), x) % prime != 0


def simple_roots(numbers, prime):
    return [x for x in range(prime) if is_simple_root(numbers, prime, x)]


# Only for a simple root: it goes on to just one root each time.
def lifted(numbers, prime, x, times):
    root = x
    power = prime
    for step in range(times):
        root = roots_gone_on_to(numbers, prime, power, root)[0]
        power = power * prime
    return root


def digits_of(number, prime, many):
    rest = number
    digits = []
    for step in range(many):
        digits.append(rest % prime)
        rest = rest // prime
    return digits
