"""What file gives: the first bytes, the count of all, and behind the first bytes the picture of bits."""

import itertools
import unittest

from tests.helper import LINE, ask, ask_of, drawing, random_cases, zigzag

SIZES = (1, 2, 7, 8, 9, 10, 11, 16, 17, 63, 64)


class Files(unittest.TestCase):
    def check(self, t, **numbers):
        """The file is the first bytes and then just the picture of bits."""
        answer = ask_of("file", t, **numbers)
        head = list(b"P4\n%d %d\n" % (numbers["w"], numbers["h"]))
        picture = ask(t, **numbers)[1:]
        self.assertEqual(answer[1:1 + len(head)], head)
        self.assertEqual(answer[1 + len(head):], picture)
        self.assertEqual(answer[0], len(answer) - 1)

    def test_bytes_as_they_stand(self):
        self.assertEqual(ask_of("file", LINE, a=1, x=-3, y=-2, w=16, h=5, s=1, r=1),
                         [18, 80, 52, 10, 49, 54, 32, 53, 10, 0, 0, 31, 252, 63, 254, 31, 252, 0, 0])
        self.assertEqual(ask_of("file", LINE, w=1, h=1, r=0), [8, 80, 52, 10, 49, 32, 49, 10, 128])
        self.assertEqual(ask_of("file", LINE, w=9, h=1, r=0), [9, 80, 52, 10, 57, 32, 49, 10, 255, 128])
        self.assertEqual(ask_of("file", LINE, w=1, h=9, r=0), [16, 80, 52, 10, 49, 32, 57, 10, 128] + [0] * 8)
        self.assertEqual(ask_of("file", LINE, w=10, h=1, r=0), [10, 80, 52, 10, 49, 48, 32, 49, 10, 255, 192])
        self.assertEqual(ask_of("file", LINE, w=1, h=10, r=0), [18, 80, 52, 10, 49, 32, 49, 48, 10, 128] + [0] * 9)

    def test_counts(self):
        for (w, h), size in {(1, 1): 8, (9, 9): 25, (10, 10): 29, (9, 10): 28, (10, 9): 26, (64, 64): 521,
                             (64, 1): 16, (1, 64): 72}.items():
            self.assertEqual(ask_of("file", LINE, w=w, h=h)[0], size)

    def test_columns_before_rows(self):
        self.assertEqual(ask_of("file", w=64, h=10)[1:10], list(b"P4\n64 10\n"))
        self.assertEqual(ask_of("file", w=10, h=64)[1:10], list(b"P4\n10 64\n"))

    def test_sizes(self):
        for w, h in itertools.product(SIZES, SIZES):
            self.check(LINE, a=1, x=-4, y=-3, w=w, h=h, s=1, r=3)

    def test_only_the_size_is_told_ahead(self):
        for numbers in ({"a": 0}, {"x": -4096}, {"y": 4095}, {"s": 64}, {"r": 4095}):
            self.assertEqual(ask_of("file", w=12, h=3, **numbers)[1:9], list(b"P4\n12 3\n"))

    def test_empty_set(self):
        self.assertEqual(ask_of("file", LINE, a=0, w=64, h=64, r=4095), [521, *b"P4\n64 64\n"] + [0] * 512)

    def test_64_pieces(self):
        for a in (2 ** 64 - 1, 2 ** 63, 0x5555555555555555):
            self.check(drawing(zigzag(64, 9)), a=a, x=200, y=-3, w=64, h=17, s=1, r=1)

    def test_many_drawings_sets_and_windows(self):
        for strokes, t, window in random_cases(60):
            self.check(t, **window)


if __name__ == "__main__":
    unittest.main()
