"""Where a fret lies."""

from gutfrets.interval import raised, ratio_of


def fret_lies(length, x):
    """How far from the nut a fret of interval x lies, to the nearest whole number, of two as near the lesser."""
    low = 0
    high = length
    while low < high:
        middle = (low + high) // 2
        if lies_beyond_half(length, x, middle):
            low = middle + 1
        else:
            high = middle
    return low


def lies_beyond_half(length, x, whole):
    """Whether the fret's exact place is more than whole and a half; whole is less than the length.

    That place is the length less the length by x's ratio. With both sides doubled and to the power d it
    is asked in whole numbers, so it is told exactly however near the half the place lies.
    """
    ratio = ratio_of(x[:4])
    rest = 2 * (length - whole) - 1
    return raised(2 * length, x[4]) * ratio[1] < raised(rest, x[4]) * ratio[0]
