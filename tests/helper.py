"""What the tests share: writing texts, a second reading of them and second answers by other means, some instruments."""

import math
import re
from decimal import Context, Decimal
from fractions import Fraction

from gutfrets.instruments import judge, sizes

PRIMES = (2, 3, 5, 7)
WORDS = {"f": "fret", "c": "course", "b": "bass"}
LENGTH = re.compile("[1-9][0-9]{0,6}")
FACTOR = re.compile(r"([2357])(?:\^(0|-?[1-9][0-9]{0,3})(/(?:0|[1-9][0-9]{0,3}))?)?")
DIGITS = tuple("0123456789")
# Far more digits than any two intervals asked for here agree in.
EXACT = Context(prec=150)
LOGARITHMS = [EXACT.ln(Decimal(prime)) for prime in PRIMES]


def as_bytes(text):
    """The text as a list of bytes, each sign one byte."""
    return list(text.encode("latin-1"))


def lines(*told):
    """A text of these lines."""
    return "".join([line + "\n" for line in told])


def write_interval(x):
    """The text of the interval x, a list of five numbers."""
    factors = []
    for prime, power in zip(PRIMES, x[:4]):
        power = Fraction(power, x[4])
        if power == 1:
            factors.append(str(prime))
        elif power != 0:
            factors.append(f"{prime}^{power}")
    return " ".join(factors) or "1"


def write_instrument(length, frets, courses, basses):
    """The text of an instrument."""
    told = [f"length {length}"]
    told += ["fret " + write_interval(x) for x in frets]
    told += ["course " + write_interval(x) for x in courses]
    told += ["bass " + write_interval(x) for x in basses]
    return lines(*told)


def second_reading(text):
    """The place of the fault, or [length, frets, courses, basses]; by regular expressions and fractions."""
    head = "length "
    for place, sign in enumerate(head):
        if text[place:place + 1] != sign:
            return place
    number = LENGTH.match(text, len(head))
    if number is None:
        return len(head)
    if text[number.end():number.end() + 1] in DIGITS:
        return number.end()
    if not 10000 <= int(number[0]) <= 200000:
        return len(head)
    if text[number.end():number.end() + 1] != "\n":
        return number.end()
    found = {"fret": [], "course": [], "bass": []}
    place = number.end() + 1
    while place < len(text):
        fault = second_line(text, place, found)
        if fault is not None:
            return fault
        place = text.index("\n", place) + 1
    if not found["course"]:
        return len(text)
    return [int(number[0])] + [len(found[word]) for word in ("fret", "course", "bass")]


def second_line(text, start, found):
    """The place of the fault in the line from start on, or None; what it tells goes into found."""
    word = WORDS.get(text[start])
    behind = {"fret": ("course", "bass"), "course": ("bass",), "bass": ()}
    if word is None or any(found[later] for later in behind[word]) or word == "bass" and not found["course"]:
        return start
    for k, sign in enumerate(word):
        if text[start + k:start + k + 1] != sign:
            return start + k
    if word == "fret" and len(found["fret"]) >= 15:
        return start
    if word != "fret" and len(found["course"] + found["bass"]) >= 14:
        return start
    start += len(word)
    if text[start:start + 1] != " ":
        return start
    start += 1
    x = text[start:].split("\n")[0]
    powers = second_interval(x)
    if isinstance(powers, int):
        return start + powers
    if word == "fret" and not is_rising(([[Fraction(0)] * 4] + found["fret"])[-1], powers):
        return start
    if word == "course" and not all(is_bounded(sum_of(powers, fret)) for fret in found["fret"]):
        return start
    found[word].append(powers)
    return None if text[start + len(x):start + len(x) + 1] == "\n" else len(text)


def second_interval(x):
    """The place of the fault in an interval's text, or its four powers."""
    powers = [Fraction(0)] * 4
    if x[:1] == "1":
        return 1 if len(x) > 1 else powers
    start, highest = 0, 0
    while True:
        factor = FACTOR.match(x, start)
        if factor is None:
            return start
        end = factor.end()
        follows = x[end:end + 1]
        if factor[2] is None and follows == "^":
            return end + (2 if x[end + 1:end + 2] == "-" else 1)
        if factor[2] is not None and follows in DIGITS:
            return end
        if factor[2] is not None and factor[3] is None and follows == "/":
            return end + 1
        prime = int(factor[1])
        told = (factor[2] or "") + (factor[3] or "")
        if prime <= highest or told in ("0", "1") or not is_lowest(told):
            return start
        powers[PRIMES.index(prime)] = Fraction(told or 1)
        highest = prime
        if follows == "":
            return powers if is_bounded(powers) else len(x)
        if follows != " ":
            return end
        start = end + 1


def is_lowest(told):
    """Whether a power's text is no fraction, or one in lowest terms with d from 2 on."""
    if "/" not in told:
        return True
    return not told.endswith("/0") and str(Fraction(told)) == told


def sum_of(powers, others):
    return [power + other for power, other in zip(powers, others)]


def is_bounded(powers):
    """Whether four powers are an interval's."""
    divisor = math.lcm(*[power.denominator for power in powers])
    return divisor <= 24 and all(abs(power * divisor) <= 99 for power in powers)


def is_rising(powers, others):
    """Whether the ratio of the others is greater."""
    divisor = math.lcm(*[power.denominator for power in powers + others])
    ratio = Fraction(1)
    for prime, power, other in zip(PRIMES, powers, others):
        ratio *= Fraction(prime) ** int((other - power) * divisor)
    return ratio > 1


def answers(text):
    """What judge and sizes answer of a text."""
    t = as_bytes(text)
    return [judge(t), sizes(t)]


def fault_at(place):
    """What judge and sizes answer of a text at fault at this place."""
    return [[-6, place], [-6]]


def answers_of_second_reading(text):
    """What judge and sizes must answer by the second reading."""
    read = second_reading(text)
    if isinstance(read, int):
        return fault_at(read)
    return [[read[2] + read[3]], read]


def powers_of(x):
    """The four powers of an interval told as five numbers."""
    return [Fraction(power, x[4]) for power in x[:4]]


def numbers_of(powers):
    """The five numbers of four powers, in lowest terms."""
    divisor = math.lcm(*[power.denominator for power in powers])
    return [int(power * divisor) for power in powers] + [divisor]


def inverse(x):
    """How far x lies the other way."""
    return [-power for power in x[:4]] + [x[4]]


def size_of(powers):
    """The logarithm of a ratio, to many digits."""
    size = Decimal(0)
    for power, logarithm in zip(powers, LOGARITHMS):
        part = EXACT.multiply(Decimal(power.numerator), logarithm)
        size = EXACT.add(size, EXACT.divide(part, Decimal(power.denominator)))
    return size


def second_lies(length, powers):
    """Where a fret lies: by fractions if the ratio is one, else by decimals, as it is then never in the middle."""
    if all(power.denominator == 1 for power in powers):
        ratio = math.prod([Fraction(prime) ** int(power) for prime, power in zip(PRIMES, powers)])
        return math.ceil(length - length / ratio - Fraction(1, 2))
    rest = EXACT.multiply(Decimal(length), EXACT.exp(-size_of(powers)))
    return math.ceil(EXACT.subtract(Decimal(length) - Decimal("0.5"), rest))


def second_places(frets, courses, basses):
    """All places in their order: the course, the fret and the four powers of what it sounds."""
    raises = [[Fraction(0)] * 4] + [powers_of(fret) for fret in frets]
    places = []
    for c, course in enumerate(courses, 1):
        places += [(c, f, sum_of(powers_of(course), fret)) for f, fret in enumerate(raises)]
    places += [(c, 0, powers_of(bass)) for c, bass in enumerate(basses, len(courses) + 1)]
    return places


def some_interval(source):
    """Any interval, often one of small numbers."""
    most = source.choice((2, 9, 99))
    divisor = source.choice((1, 1, 2, 3, 4, 6, 12, 24, source.randint(1, 24)))
    powers = [source.choice((0, 1, source.randint(-most, most))) for k in range(4)]
    factor = math.gcd(*powers, divisor)
    return [power // factor for power in powers] + [divisor // factor]


def some_frets(source, courses):
    """Some frets that rise and sound an interval with each of the courses."""
    frets = []
    for k in range(source.randint(0, 40)):
        fret = some_interval(source)
        before = powers_of(frets[-1]) if frets else [Fraction(0)] * 4
        powers = powers_of(fret)
        sounds = all(is_bounded(sum_of(powers, powers_of(course))) for course in courses)
        if sounds and is_rising(before, powers) and len(frets) < 15:
            frets.append(fret)
    return frets


def some_instrument(source):
    """A length, frets, courses and basses: any ones, or ones of equal or of pure steps, many of which sound alike."""
    length = source.randint(10000, 200000)
    strings = source.randint(1, 14)
    count = source.randint(1, strings)
    kind = source.choice(("any", "equal", "pure"))
    if kind == "any":
        told = [some_interval(source) for k in range(strings)]
        return length, some_frets(source, told[:count]), told[:count], told[count:]
    if kind == "equal":
        steps = source.choice((5, 7, 12, 19, 24))
        told = [numbers_of([Fraction(source.randint(-20, 20), steps)] + [Fraction(0)] * 3) for k in range(strings)]
        frets = [numbers_of([Fraction(k, steps)] + [Fraction(0)] * 3) for k in range(1, source.randint(1, 16))]
        return length, frets, told[:count], told[count:]
    told = [[source.randint(-2, 2), source.randint(-1, 1), source.randint(-1, 1), 0, 1] for k in range(strings)]
    pure = ([4, -1, -1, 0, 1], [-3, 2, 0, 0, 1], [1, 1, -1, 0, 1], [-2, 0, 1, 0, 1], [2, -1, 0, 0, 1], [-1, 1, 0, 0, 1],
            [3, 0, -1, 0, 1], [0, -1, 1, 0, 1], [-2, 0, 0, 1, 1], [-3, 1, 1, 0, 1], [1, 0, 0, 0, 1], [0, 1, 0, 0, 1])
    frets = [x for x in pure if source.random() < 0.7]
    return length, frets, told[:count], told[count:]


def no_intervals():
    """Lists of whole numbers that are no intervals: too few and too many, out of a bound, with a common factor."""
    least, most = -2147483648, 2147483647
    lists = [[], [0], [1], [0, 0, 0, 1], [1, 0, 0, 0], [1, 0, 0, 0, 1, 0], [0, 0, 0, 0, 1, 1], [0, 0, 0, 0, 1, 0, 0, 0]]
    lists += [[0] * count for count in range(1, 9)] + [[1] * count for count in (1, 2, 3, 4, 6, 7, 8)]
    for position in range(4):
        for power in (100, -100, 101, 1000, least, most):
            x = [0, 0, 0, 0, 1]
            x[position] = power
            lists.append(x)
    lists += [[1, 0, 0, 0, divisor] for divisor in (25, 26, 0, -1, -24, least, most)]
    lists += [[1, 1, 1, 1, 0], [-1, 1, 0, 0, -1], [99, 99, 99, 100, 1], [1, 2, 3, 4, 25]]
    lists += [[0, 0, 0, 0, 2], [0, 0, 0, 0, 24], [2, 4, 0, 0, 2], [3, -6, 9, 0, 24], [0, 0, 0, 99, 3], [-12, 0, 0, 0, 12]]
    lists += [[least] * 5, [most] * 5, [most] * 8, [least, most, 0, 0, 1]]
    return lists


NO_INTERVALS = no_intervals()


def second_near(places, x):
    """The course and the fret of the first of the places that lies nearest to x, by logarithms to many digits."""
    best = None
    for c, f, powers in places:
        between = abs(EXACT.subtract(size_of(powers), size_of(powers_of(x))))
        if best is None or between < best[2] and EXACT.subtract(best[2], between) > Decimal("1e-90"):
            best = (c, f, between)
    return [best[0], best[1]]


def second_pairs(places, x):
    """How many pairs of the places are x apart: by each two places, and what lies between them."""
    counted = {}
    for c, f, powers in places:
        for d, g, others in places:
            if c != d and sum_of(powers, powers_of(x)) == others:
                counted[frozenset({(c, f), (d, g)})] = True
    return len(counted)


def second_text(length, frets, courses, basses):
    """What is answered of an instrument of these powers: its text, or -3 if it is none."""
    rising = all(is_rising(low, high) for low, high in zip([[Fraction(0)] * 4] + frets, frets))
    bounded = all(is_bounded(powers) for powers in frets + courses + basses)
    sounding = all(is_bounded(sum_of(course, fret)) for course in courses for fret in frets)
    if not (rising and bounded and sounding):
        return [-3]
    return answered(write_instrument(length, *[[numbers_of(x) for x in told] for told in (frets, courses, basses)]))


def answered(text):
    """A text as it is answered: how many bytes, then these."""
    return [len(text)] + as_bytes(text)


def powers_of_parts(parts):
    """The length, and frets, courses and basses by their powers."""
    return [parts[0]] + [[powers_of(x) for x in told] for told in parts[1:]]


def second_tune(parts, c, f, d, g, o):
    """What tune answers of places that are there, c and d not one."""
    length, frets, courses, basses = powers_of_parts(parts)
    sounds = {(course, fret): powers for course, fret, powers in second_places(*parts[1:])}
    fret = frets[f - 1] if f > 0 else [Fraction(0)] * 4
    tuned = [p - q for p, q in zip(sounds[d, g], fret)]
    tuned[0] += o
    strings = courses + basses
    strings[c - 1] = tuned
    return second_text(length, frets, strings[:len(courses)], strings[len(courses):])


def second_tie(parts, f, x):
    """What tie answers of a fret that is there."""
    length, frets, courses, basses = powers_of_parts(parts)
    frets[f - 1] = powers_of(x)
    return second_text(length, frets, courses, basses)


def second_raise(parts, x):
    """What raise_by answers."""
    length, frets, courses, basses = powers_of_parts(parts)
    by = powers_of(x)
    return second_text(length, frets, [sum_of(y, by) for y in courses], [sum_of(y, by) for y in basses])
