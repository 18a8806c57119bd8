"""What is handed in stays as it was, and nothing is kept from one call to the next."""

import unittest

from gutfrets.instruments import judge, sizes
from helper import as_bytes, lines

HEAD = "length 60000\n"
END = "course 1\n"


class HandedInTest(unittest.TestCase):
    def test_nothing_is_changed_or_kept(self):
        texts = (
            HEAD + lines("fret 2^1/12", "fret 2^1/6") + END + "bass 2^-1\n", HEAD, "", HEAD + END * 15,
            HEAD + lines("fret 2^1/12", "fret 2^1/12"), HEAD + END + "x" * 5000, "length 9", HEAD + END,
        )
        handed = [as_bytes(text) for text in texts]
        first = [[judge(t), sizes(t)] for t in handed]
        for k in (3, 0, 7, 1, 5, 2, 6, 4, 4, 0):
            self.assertEqual([judge(handed[k]), sizes(handed[k])], first[k])
            self.assertEqual([sizes(handed[k]), judge(handed[k])], first[k][::-1])
            self.assertEqual(handed[k], as_bytes(texts[k]))

    def test_what_is_given_back_is_a_new_list_of_whole_numbers(self):
        for text in (HEAD + END, HEAD, "x" * 5000):
            t = as_bytes(text)
            for call in (judge, sizes):
                given = call(t)
                self.assertIs(type(given), list)
                self.assertEqual([type(number) for number in given], [int] * len(given))
                kept = list(given)
                given.append(7)
                self.assertEqual(call(t), kept)


if __name__ == "__main__":
    unittest.main()
