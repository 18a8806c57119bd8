"""What is handed in stays as it was, and nothing is kept from one call to the next."""

import unittest

from gutfrets.instruments import find, judge, lies, near, order, pairs, raise_by, sizes, sound, tie, tune
from helper import as_bytes, lines

HEAD = "length 60000\n"
END = "course 1\n"
TEXTS = (
    HEAD + lines("fret 2^1/12", "fret 2^1/6") + END + "bass 2^-1\n", HEAD, "", HEAD + END * 15,
    HEAD + lines("fret 2^1/12", "fret 2^1/12"), HEAD + END + "x" * 5000, "length 9", HEAD + END,
)
# The calls, each with some arguments: a list stands for x, and None for t.
CALLS = (
    (judge, None), (sizes, None), (lies, 0, None), (lies, 2, None), (lies, 3, None), (sound, 1, 0, None),
    (sound, 1, 2, None), (sound, 2, 0, None), (sound, 3, 0, None), (order, 1, 0, 2, 0, None), (order, 1, 2, 1, 1, None),
    (order, 3, 0, 1, 0, None), (find, 0, None, [0, 0, 0, 0, 1]), (find, 1, None, [-1, 0, 0, 0, 1]),
    (find, 1, None, [2, 0, 0, 0, 2]), (find, 0, None, []), (find, 2, None, [1, 2, 3, 4, 5, 6, 7, 8]),
    (tune, 1, 1, 2, 0, 3, None), (tune, 2, 0, 1, 2, -9, None), (tune, 1, 0, 1, 0, 0, None), (tune, 1, 0, 2, 0, 10, None),
    (tie, 1, None, [1, 0, 0, 0, 24]), (tie, 2, None, [1, 0, 0, 0, 12]), (tie, 0, None, [1, 0, 0, 0, 1]), (tie, 2, None, []),
    (raise_by, None, [0, 0, 0, 0, 1]), (raise_by, None, [-1, 1, 0, 0, 1]), (raise_by, None, [99, 0, 0, 0, 1]),
    (raise_by, None, [1, 0, 0, 0, 23]), (raise_by, None, [0, 0, 0, 0, 0, 0]), (raise_by, None, [2, 2, 2, 2, 2]),
    (near, None, [0, 0, 0, 0, 1]), (near, None, [-1, 0, 0, 0, 5]), (near, None, [2, 0, 0, 0, 4]), (near, None, []),
    (pairs, None, [0, 0, 0, 0, 1]), (pairs, None, [1, 0, 0, 0, 1]), (pairs, None, [0, 0, 0, 0, 0]), (pairs, None, [1] * 8),
)


def handed_to(call, t):
    """The arguments of a call with the text t, its lists anew."""
    return [t if value is None else list(value) if isinstance(value, list) else value for value in call[1:]]


class HandedInTest(unittest.TestCase):
    def test_nothing_is_changed(self):
        for text in TEXTS:
            for call in CALLS:
                arguments = handed_to(call, as_bytes(text))
                call[0](*arguments)
                self.assertEqual(arguments, handed_to(call, as_bytes(text)))

    def test_nothing_is_kept(self):
        texts = [as_bytes(text) for text in TEXTS]
        first = [[call[0](*handed_to(call, t)) for call in CALLS] for t in texts]
        for k in (3, 0, 7, 1, 5, 2, 6, 4, 4, 0):
            again = [call[0](*handed_to(call, texts[k])) for call in CALLS]
            backwards = [call[0](*handed_to(call, texts[k])) for call in CALLS[::-1]]
            self.assertEqual(again, first[k])
            self.assertEqual(backwards[::-1], first[k])

    def test_what_is_given_back_is_a_new_list_of_whole_numbers(self):
        for text in TEXTS:
            for call in CALLS:
                arguments = handed_to(call, as_bytes(text))
                given = call[0](*arguments)
                self.assertIs(type(given), list)
                self.assertEqual([type(number) for number in given], [int] * len(given))
                kept = list(given)
                given.append(7)
                given[0] = 5
                self.assertEqual(call[0](*arguments), kept)
                self.assertEqual(arguments, handed_to(call, as_bytes(text)))


if __name__ == "__main__":
    unittest.main()
