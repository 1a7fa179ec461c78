"""What count gives: how many spots of a window are lit."""

import unittest

from tests.helper import LINE, ask, ask_of, drawing, plain_picture, random_cases, short_strokes, zigzag


def lit_bits(t, **numbers):
    """How many bits of the picture of bits are 1."""
    return sum(f"{byte:b}".count("1") for byte in ask(t, **numbers)[1:])


def lit_spots(t, **numbers):
    answer = ask_of("count", t, **numbers)
    if len(answer) != 2 or answer[0] != 0:
        raise AssertionError(f"{answer} is no count")
    return answer[1]


class Counts(unittest.TestCase):
    def test_ordinary(self):
        self.assertEqual(ask_of("count", LINE, a=1, x=-3, y=-2, w=16, h=5, s=1, r=1), [0, 11 + 13 + 11])
        self.assertEqual(ask_of("count", LINE, a=1, x=-3, y=-2, w=16, h=5, s=1, r=0), [0, 11])
        self.assertEqual(ask_of("count", LINE, a=1, x=-4, y=0, w=16, h=1, s=4, r=0), [0, 3])
        self.assertEqual(ask_of("count", LINE, a=1, x=11, y=0, w=16, h=5, s=1, r=0), [0, 0])

    def test_one_spot(self):
        self.assertEqual(ask_of("count", LINE, x=10, y=0, w=1, h=1, r=0), [0, 1])
        self.assertEqual(ask_of("count", LINE, x=11, y=0, w=1, h=1, r=0), [0, 0])
        self.assertEqual(ask_of("count", LINE, x=13, y=4, w=1, h=1, r=5), [0, 1])
        self.assertEqual(ask_of("count", LINE, x=13, y=4, w=1, h=1, r=4), [0, 0])

    def test_64_by_64(self):
        self.assertEqual(ask_of("count", LINE, w=64, h=64, r=4095), [0, 4096])
        self.assertEqual(ask_of("count", LINE, w=64, h=64, r=0), [0, 11])
        self.assertEqual(ask_of("count", LINE, x=-4096, y=-4096, w=64, h=64, s=64, r=0), [0, 0])
        for strokes in ([zigzag(64, 60)], short_strokes(64)):
            window = {"a": 2 ** 64 - 1, "x": 100, "y": -3, "w": 64, "h": 64, "s": 1, "r": 1}
            self.assertEqual(lit_spots(drawing(*strokes), **window), lit_bits(drawing(*strokes), **window))

    def test_all_widths(self):
        for w in range(1, 65):
            self.assertEqual(ask_of("count", drawing([(0, 0), (4095, 0)]), y=-2, w=w, h=5, r=1), [0, 3 * w])
            self.assertEqual(ask_of("count", drawing([(0, 0), (0, 4095)]), x=-2, w=5, h=w, r=1), [0, 3 * w])

    def test_empty_set(self):
        for w, h in ((1, 1), (9, 7), (64, 64)):
            self.assertEqual(ask_of("count", LINE, a=0, w=w, h=h, r=4095), [0, 0])

    def test_a_spot_lit_by_several_pieces_counts_once(self):
        t = drawing([(0, 0), (5, 0), (5, 5), (0, 0)])
        self.assertEqual(ask_of("count", t, a=7, x=5, y=0, w=1, h=1, r=9), [0, 1])
        self.assertEqual(ask_of("count", t, a=7, x=0, y=0, w=6, h=6, r=0), [0, 15])


class ManyCounts(unittest.TestCase):
    @classmethod
    def setUpClass(cls):
        cls.cases = random_cases(60)

    def test_as_many_as_bits_that_are_1(self):
        widths = {window["w"] % 8 for strokes, t, window in self.cases}
        self.assertEqual(widths, set(range(8)))
        for strokes, t, window in self.cases:
            self.assertEqual(lit_spots(t, **window), lit_bits(t, **window))
            self.assertEqual(lit_spots(t, **window), "".join(plain_picture(strokes, **window)).count("#"))

    def test_greater_reach(self):
        for strokes, t, window in self.cases:
            counts = [lit_spots(t, **dict(window, r=r)) for r in (0, 1, 2, 3, 5, 9, 50, 4095)]
            self.assertEqual(counts, sorted(counts))
            self.assertEqual(counts[-1], window["w"] * window["h"] if window["a"] else 0)

    def test_greater_set(self):
        for strokes, t, window in self.cases:
            pieces = sum(len(points) - 1 for points in strokes)
            counts = [lit_spots(t, **dict(window, a=2 ** i - 1)) for i in range(pieces + 1)]
            self.assertEqual(counts, sorted(counts))
            for i in range(pieces):
                self.assertGreaterEqual(lit_spots(t, **dict(window, a=window["a"] | 1 << i)), lit_spots(t, **window))

    def test_moved_windows(self):
        for strokes, t, window in self.cases:
            whole = lit_spots(t, **window)
            for i in range(1, window["w"]):
                left = lit_spots(t, **dict(window, w=i))
                right = lit_spots(t, **dict(window, x=window["x"] + i * window["s"], w=window["w"] - i))
                self.assertEqual(left + right, whole)
            for j in range(1, window["h"]):
                upper = lit_spots(t, **dict(window, h=j))
                lower = lit_spots(t, **dict(window, y=window["y"] + j * window["s"], h=window["h"] - j))
                self.assertEqual(upper + lower, whole)


if __name__ == "__main__":
    unittest.main()
