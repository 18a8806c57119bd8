"""Reads an interval's text where it stands in an instrument's text, and writes one."""

from gutfrets.interval import PRIMES, common_factor, is_interval, unison, upon
from gutfrets.reading import LINE_END, NO_BYTE, ONE, ZERO, TextFault, expect, read_number

CARET = 0x5E
MINUS = 0x2D
SLASH = 0x2F
MOST_DIGITS = 4


def read_interval(reader):
    """Reads the interval whose text stands from here up to the next 0AH or the end."""
    if reader.peek() == ONE:
        reader.step()
        if not is_behind(reader):
            raise TextFault(reader.place)
        return unison()
    x = read_factors(reader)
    if not is_interval(x):
        raise TextFault(reader.place)
    return x


def is_behind(reader):
    """Whether the interval's text has ended."""
    return reader.peek() == LINE_END or reader.peek() == NO_BYTE


def read_factors(reader):
    """Reads factors up to the text's end; answers all of them upon one another."""
    x = unison()
    before = -1
    while True:
        start = reader.place
        position = read_prime(reader)
        factor = read_power(reader, start, position)
        # Only here, as a factor's order is looked at when it stands whole.
        if position <= before:
            raise TextFault(start)
        x = upon(x, factor)
        if is_behind(reader):
            return x
        expect(reader, " ")
        before = position


def read_prime(reader):
    """Reads a factor's digit; answers its position among the primes."""
    digit = reader.peek() - ZERO
    if digit not in PRIMES:
        raise TextFault(reader.place)
    reader.step()
    return PRIMES.index(digit)


def read_power(reader, start, position):
    """Reads the power of the factor that began at start; answers the factor as five numbers."""
    if reader.peek() != CARET:
        return factor_of(position, 1, 1)
    reader.step()
    n = read_whole(reader)
    if reader.peek() != SLASH:
        if n == 0 or n == 1:
            raise TextFault(start)
        return factor_of(position, n, 1)
    reader.step()
    d = read_number(reader, ZERO, MOST_DIGITS)
    if d < 2 or common_factor([n, d]) != 1:
        raise TextFault(start)
    return factor_of(position, n, d)


def read_whole(reader):
    """Reads a number that may have a minus sign, behind which no 0 can begin."""
    if reader.peek() != MINUS:
        return read_number(reader, ZERO, MOST_DIGITS)
    reader.step()
    return -read_number(reader, ONE, MOST_DIGITS)


def factor_of(position, n, d):
    """The prime at this position to the power n/d, as five numbers."""
    factor = unison()
    factor[position] = n
    factor[4] = d
    return factor


def write_interval(x):
    """The text of the interval x."""
    factors = [write_factor(PRIMES[k], x[k], x[4]) for k in range(4) if x[k] != 0]
    return "1" if len(factors) == 0 else " ".join(factors)


def write_factor(prime, n, d):
    """The text of the prime to the power n/d, which isn't 0."""
    factor = common_factor([n, d])
    above = n // factor
    below = d // factor
    if below > 1:
        return f"{prime}^{above}/{below}"
    if above != 1:
        return f"{prime}^{above}"
    return f"{prime}"
