"""Wrong inputs of the calls that ask for more than a text: each refusal is its number alone, the first one that holds."""

import unittest

from gutfrets.instruments import find, judge, lies, near, order, pairs, raise_by, sizes, sound, tie, tune
from helper import NO_INTERVALS, as_bytes, lines

MOST_NUMBER = 2147483647
RIGHT = as_bytes(lines("length 60000", "fret 2^1/12", "fret 2", "course 1", "course 3", "bass 2^-1"))
# Each is no instrument's text, for a reason of its own.
WRONG = [as_bytes(text) for text in (
    "", "x", "length 60000\n", "length 9999\ncourse 1\n", "length 200001\ncourse 1\n", "length 60000\ncourse 1",
    "length 60000\nfret 1\ncourse 1\n", "length 60000\nfret 2\nfret 2\ncourse 1\n", "length 60000\nbass 1\n",
    "length 60000\nfret 2\ncourse 2^99\n", "length 60000\ncourse 2^100\n", "length 60000\ncourse 2^1\n",
    "length 60000\n" + "course 1\n" * 15, "length 60000\ncourse 1\nfret 2\n", "length 60000\ncourse 1\n\n",
)] + [RIGHT + [0] * (4096 - len(RIGHT)), [255] * 4096, [10] * 4096, RIGHT[:-1], RIGHT + [98]]
TOO_LONG = [RIGHT + [0] * (4097 - len(RIGHT)), RIGHT + [10] * (8192 - len(RIGHT)), [0] * 4097, [255] * 8192]
UNISON = [0, 0, 0, 0, 1]
INTERVALS = [UNISON, [99, -99, 99, -99, 1], [1, 0, 0, 0, 24], [-1, 1, 0, 0, 1]]
NO_PLACES = [(0, 0), (1, 3), (3, 1), (4, 0), (MOST_NUMBER, 0), (1, MOST_NUMBER), (MOST_NUMBER, MOST_NUMBER)]
FAR_OCTAVES = [-10, 10, -MOST_NUMBER - 1, MOST_NUMBER]
# For each call arguments that nothing is wrong with, then ones that are refused for themselves, and how.
CALLS = {
    "sizes": (sizes, [()], []),
    "lies": (lambda t, f: lies(f, t), [(0,), (1,), (2,)], [((3,), -4), ((MOST_NUMBER,), -4)]),
    "sound": (lambda t, c, f: sound(c, f, t), [(1, 0), (2, 2), (3, 0)], [(place, -4) for place in NO_PLACES]),
    "order": (
        lambda t, c, f, d, g: order(c, f, d, g, t), [(1, 0, 1, 0), (1, 2, 3, 0), (3, 0, 2, 1)],
        [(place + (1, 0), -4) for place in NO_PLACES] + [((3, 0) + place, -4) for place in NO_PLACES]
        + [(place + place, -4) for place in NO_PLACES],
    ),
    "find": (
        lambda t, x, octaves: find(octaves, t, x), [(UNISON, 0), (UNISON, 1), ([99, 0, 0, 0, 1], 1)],
        [((UNISON, octaves), -1) for octaves in (2, MOST_NUMBER)]
        + [((x, octaves), -1) for x in NO_INTERVALS for octaves in (0, 1, 2, MOST_NUMBER)],
    ),
    "tune": (
        lambda t, c, f, d, g, o: tune(c, f, d, g, o, t), [(1, 0, 2, 0, 0), (3, 0, 1, 2, 9), (3, 0, 1, 0, -9)],
        [((1, 0, 2, 0, o), -1) for o in FAR_OCTAVES] + [((1, 0, 1, 0, o), -1) for o in FAR_OCTAVES]
        + [(place + (2, 0, 10), -1) for place in NO_PLACES] + [((2, 0) + place + (-10,), -1) for place in NO_PLACES]
        + [(place + (2, 0, 9), -4) for place in NO_PLACES] + [((2, 0) + place + (-9,), -4) for place in NO_PLACES]
        + [(place + place + (0,), -4) for place in NO_PLACES + [(1, 0), (2, 1), (3, 0)]]
        + [((2, 1, 3, 0, -9), -3), ((1, 1, 2, 0, 9), -3)],
    ),
    "tie": (
        lambda t, f, x: tie(f, t, x), [(1, [1, 0, 0, 0, 24]), (2, [-1, 1, 0, 0, 1]), (2, [1, 0, 0, 0, 1])],
        [((f, x), -1) for x in NO_INTERVALS for f in (0, 1, 2, 3, MOST_NUMBER)]
        + [((f, x), -4) for x in INTERVALS for f in (0, 3, MOST_NUMBER)]
        + [((1, UNISON), -3), ((1, [1, 0, 0, 0, 1]), -3), ((2, [1, 0, 0, 0, 12]), -3), ((2, [99, 99, 0, 0, 1]), -3)],
    ),
    "near": (near, [(x,) for x in INTERVALS], [((x,), -1) for x in NO_INTERVALS]),
    "pairs": (pairs, [(x,) for x in INTERVALS], [((x,), -1) for x in NO_INTERVALS]),
    "raise_by": (
        raise_by, [(UNISON,), ([1, 0, 0, 0, 24],), ([-1, 1, 0, 0, 1],)],
        [((x,), -1) for x in NO_INTERVALS] + [(([99, -99, 99, -99, 1],), -3), (([1, 0, 0, 0, 23],), -3)],
    ),
}


class RefusalTest(unittest.TestCase):
    def check_all(self, texts, number):
        """That each call refuses the texts with this number, whatever else is handed in."""
        for name, (call, right, refused) in CALLS.items():
            for arguments in right + [told[0] for told in refused]:
                for t in texts:
                    self.assertEqual(call(t, *arguments), [number], (name, arguments, t[:40]))

    def test_right_inputs(self):
        for name, (call, right, refused) in CALLS.items():
            for arguments in right:
                self.assertGreaterEqual(call(RIGHT, *arguments)[0], 0, (name, arguments))

    def test_too_long(self):
        self.check_all(TOO_LONG, -2)
        self.assertEqual([judge(t) for t in TOO_LONG], [[-2]] * len(TOO_LONG))

    def test_no_instrument(self):
        self.check_all(WRONG, -6)
        for t in WRONG:
            self.assertEqual([judge(t)[0], len(judge(t))], [-6, 2])

    def test_refused_for_themselves(self):
        for name, (call, right, refused) in CALLS.items():
            for arguments, number in refused:
                self.assertEqual(call(RIGHT, *arguments), [number], (name, arguments))


if __name__ == "__main__":
    unittest.main()
