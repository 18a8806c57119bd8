"""Intervals: lists of five whole numbers a, b, c, e, d for 2^(a/d) 3^(b/d) 5^(c/d) 7^(e/d)."""

PRIMES = (2, 3, 5, 7)
MOST_POWER = 99
MOST_DIVISOR = 24


def unison():
    """The interval whose ratio is 1."""
    return [0, 0, 0, 0, 1]


def common_factor(numbers):
    """The greatest common factor of whole numbers, 0 if there is none but zeros."""
    factor = 0
    for number in numbers:
        rest = abs(number)
        while rest != 0:
            lesser = factor % rest
            factor = rest
            rest = lesser
    return factor


def is_interval(x):
    """Whether the list x of whole numbers is an interval."""
    if len(x) != 5:
        return False
    for power in x[:4]:
        if abs(power) > MOST_POWER:
            return False
    if x[4] < 1 or x[4] > MOST_DIVISOR:
        return False
    return common_factor(x) == 1


def upon(x, y):
    """x upon y as five numbers in lowest terms, d above 0; its numbers may be too great for an interval."""
    numbers = [x[k] * y[4] + y[k] * x[4] for k in range(4)]
    numbers.append(x[4] * y[4])
    factor = common_factor(numbers)
    return [number // factor for number in numbers]


def less(x, y):
    """x less y, told as of upon."""
    inverse = [-power for power in y[:4]]
    inverse.append(y[4])
    return upon(x, inverse)


def is_octaves(x):
    """Whether x, in lowest terms, is some whole number of octaves, up, down or none."""
    return x[1:] == [0, 0, 0, 1]


def raised(base, power):
    """base to a power from 0 on; by squaring, as comparing intervals asks for powers of some thousands."""
    product = 1
    while power > 0:
        if power % 2 == 1:
            product = product * base
        base = base * base
        power = power // 2
    return product


def ratio_of(powers):
    """The ratio of 2, 3, 5, 7 to these whole powers: a tuple of what is above and what is below."""
    above = 1
    below = 1
    for k in range(4):
        if powers[k] > 0:
            above = above * raised(PRIMES[k], powers[k])
        else:
            below = below * raised(PRIMES[k], -powers[k])
    return (above, below)


def is_wider(x, y):
    """Whether x is wider than y; in whole numbers, as two ratios may be closer than any rounding can tell."""
    ratio = ratio_of([x[k] * y[4] - y[k] * x[4] for k in range(4)])
    return ratio[0] > ratio[1]
