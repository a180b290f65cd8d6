"""The slopes of a polynomial for a prime: the ways along its points from below, from the first to the last."""

from liftedroots.polynomial import times_divided


def points_of(numbers, prime):
    return [(power, times_divided(number, prime)) for power, number in enumerate(numbers) if number != 0]


def run_of(start, end):
    return end[0] - start[0]


def rise_of(start, end):
    return end[1] - start[1]


# Rises are compared crosswise: every run is above 0, and so no fraction is needed.
def rises_no_more(start, one, other):
    return rise_of(start, one) * run_of(start, other) <= rise_of(start, other) * run_of(start, one)


def place_of_next(points, place):
    best = place + 1
    for other in range(place + 2, len(points)):
        # Of those that rise as little the last one is wanted: so the later one wins if they are alike.
        if rises_no_more(points[place], points[other], points[best]):
            best = other
    return best


def greatest_common_divisor(one, other):
    divisor = abs(one)
    rest = abs(other)
    while rest != 0:
        left = divisor % rest
        divisor = rest
        rest = left
    return divisor


def way_between(start, end):
    rise = rise_of(start, end)
    run = run_of(start, end)
    divisor = greatest_common_divisor(rise, run)
    return (rise // divisor, run // divisor, run)


def ways_of(numbers, prime):
    points = points_of(numbers, prime)
    ways = []
    place = 0
    while place < len(points) - 1:
        behind = place_of_next(points, place)
        ways.append(way_between(points[place], points[behind]))
        place = behind
    return ways
