"""What the tests share: writing texts, and a second reading of them by other means."""

import math
import re
from fractions import Fraction

from gutfrets.instruments import judge, sizes

PRIMES = (2, 3, 5, 7)
WORDS = {"f": "fret", "c": "course", "b": "bass"}
LENGTH = re.compile("[1-9][0-9]{0,6}")
FACTOR = re.compile(r"([2357])(?:\^(0|-?[1-9][0-9]{0,3})(/(?:0|[1-9][0-9]{0,3}))?)?")
DIGITS = tuple("0123456789")


def as_bytes(text):
    """The text as a list of bytes, each sign one byte."""
    return list(text.encode("latin-1"))


def lines(*told):
    """A text of these lines."""
    return "".join([line + "\n" for line in told])


def write_interval(x):
    """The text of the interval x, a list of five numbers."""
    factors = []
    for prime, power in zip(PRIMES, x[:4]):
        power = Fraction(power, x[4])
        if power == 1:
            factors.append(str(prime))
        elif power != 0:
            factors.append(f"{prime}^{power}")
    return " ".join(factors) or "1"


def write_instrument(length, frets, courses, basses):
    """The text of an instrument."""
    told = [f"length {length}"]
    told += ["fret " + write_interval(x) for x in frets]
    told += ["course " + write_interval(x) for x in courses]
    told += ["bass " + write_interval(x) for x in basses]
    return lines(*told)


def second_reading(text):
    """The place of the fault, or [length, frets, courses, basses]; by regular expressions and fractions."""
    head = "length "
    for place, sign in enumerate(head):
        if text[place:place + 1] != sign:
            return place
    number = LENGTH.match(text, len(head))
    if number is None:
        return len(head)
    if text[number.end():number.end() + 1] in DIGITS:
        return number.end()
    if not 10000 <= int(number[0]) <= 200000:
        return len(head)
    if text[number.end():number.end() + 1] != "\n":
        return number.end()
    found = {"fret": [], "course": [], "bass": []}
    place = number.end() + 1
    while place < len(text):
        fault = second_line(text, place, found)
        if fault is not None:
            return fault
        place = text.index("\n", place) + 1
    if not found["course"]:
        return len(text)
    return [int(number[0])] + [len(found[word]) for word in ("fret", "course", "bass")]


def second_line(text, start, found):
    """The place of the fault in the line from start on, or None; what it tells goes into found."""
    word = WORDS.get(text[start])
    behind = {"fret": ("course", "bass"), "course": ("bass",), "bass": ()}
    if word is None or any(found[later] for later in behind[word]) or word == "bass" and not found["course"]:
        return start
    for k, sign in enumerate(word):
        if text[start + k:start + k + 1] != sign:
            return start + k
    if word == "fret" and len(found["fret"]) >= 15:
        return start
    if word != "fret" and len(found["course"] + found["bass"]) >= 14:
        return start
    start += len(word)
    if text[start:start + 1] != " ":
        return start
    start += 1
    x = text[start:].split("\n")[0]
    powers = second_interval(x)
    if isinstance(powers, int):
        return start + powers
    if word == "fret" and not is_rising(([[Fraction(0)] * 4] + found["fret"])[-1], powers):
        return start
    if word == "course" and not all(is_bounded(sum_of(powers, fret)) for fret in found["fret"]):
        return start
    found[word].append(powers)
    return None if text[start + len(x):start + len(x) + 1] == "\n" else len(text)


def second_interval(x):
    """The place of the fault in an interval's text, or its four powers."""
    powers = [Fraction(0)] * 4
    if x[:1] == "1":
        return 1 if len(x) > 1 else powers
    start, highest = 0, 0
    while True:
        factor = FACTOR.match(x, start)
        if factor is None:
            return start
        end = factor.end()
        follows = x[end:end + 1]
        if factor[2] is None and follows == "^":
            return end + (2 if x[end + 1:end + 2] == "-" else 1)
        if factor[2] is not None and follows in DIGITS:
            return end
        if factor[2] is not None and factor[3] is None and follows == "/":
            return end + 1
        prime = int(factor[1])
        told = (factor[2] or "") + (factor[3] or "")
        if prime <= highest or told in ("0", "1") or not is_lowest(told):
            return start
        powers[PRIMES.index(prime)] = Fraction(told or 1)
        highest = prime
        if follows == "":
            return powers if is_bounded(powers) else len(x)
        if follows != " ":
            return end
        start = end + 1


def is_lowest(told):
    """Whether a power's text is no fraction, or one in lowest terms with d from 2 on."""
    if "/" not in told:
        return True
    return not told.endswith("/0") and str(Fraction(told)) == told


def sum_of(powers, others):
    return [power + other for power, other in zip(powers, others)]


def is_bounded(powers):
    """Whether four powers are an interval's."""
    divisor = math.lcm(*[power.denominator for power in powers])
    return divisor <= 24 and all(abs(power * divisor) <= 99 for power in powers)


def is_rising(powers, others):
    """Whether the ratio of the others is greater."""
    divisor = math.lcm(*[power.denominator for power in powers + others])
    ratio = Fraction(1)
    for prime, power, other in zip(PRIMES, powers, others):
        ratio *= Fraction(prime) ** int((other - power) * divisor)
    return ratio > 1


def answers(text):
    """What judge and sizes answer of a text."""
    t = as_bytes(text)
    return [judge(t), sizes(t)]


def fault_at(place):
    """What judge and sizes answer of a text at fault at this place."""
    return [[-6, place], [-6]]


def answers_of_second_reading(text):
    """What judge and sizes must answer by the second reading."""
    read = second_reading(text)
    if isinstance(read, int):
        return fault_at(read)
    return [[read[2] + read[3]], read]
