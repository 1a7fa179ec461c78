"""The pictures that bits gives: which spots are lit, and how they stand in bytes."""

import unittest
from fractions import Fraction

from tests.helper import LINE, ask, ask_of, drawing, picture, plain_picture, plain_square, short_strokes, zigzag

# The door hangs a little above the floor: its feet must not stand in the midst of a piece.
HOUSE = [[(2, 9), (2, 4), (6, 1), (10, 4), (10, 9), (2, 9)], [(5, 8), (5, 6), (7, 6), (7, 8)]]
# Spots whose distance from a long slanted piece is hardly above, or hardly below, a whole number.
NEARLY = (
    (((0, 0), (2803, 3652)), 2531, 2662, 387),
    (((0, 0), (2079, 3034)), 1215, 2318, 308),
    (((0, 0), (3556, 4054)), 985, 944, 118),
    (((0, 0), (2687, 3151)), 1662, 1949, 0),
    (((0, 0), (3733, 2674)), 3091, 2855, 521),
    (((0, 0), (4040, 3654)), 1781, 1925, 233),
    (((0, 0), (3326, 2278)), 2507, 465, 1033),
)


class Ordinary(unittest.TestCase):
    def test_a_line(self):
        self.assertEqual(ask(LINE, a=1, x=-3, y=-2, w=16, h=5, s=1, r=1),
                         [10, 0, 0, 31, 252, 63, 254, 31, 252, 0, 0])

    def test_pieces_by_themselves(self):
        t = drawing(*HOUSE)
        self.assertEqual(picture(t, a=0b00000001, x=0, y=0, w=12, h=11, r=0),
                         ["............"] * 4 + ["..#........."] * 6 + ["............"])
        self.assertEqual(picture(t, a=0b00010000, x=0, y=8, w=12, h=3, r=0),
                         ["............", "..#########.", "............"])
        self.assertEqual(picture(t, a=0b10000000, x=0, y=5, w=12, h=4, r=0),
                         ["............", ".......#....", ".......#....", ".......#...."])

    def test_sets_reaches_and_steps(self):
        t = drawing(*HOUSE)
        for a in (0, 1, 2, 0b10101, 0b01100110, 0b11100000, 0b11111111):
            for r in (0, 1, 2, 5, 100, 4095):
                for s in (1, 2, 3, 64):
                    window = {"a": a, "x": -4, "y": -5, "w": 19, "h": 20, "s": s, "r": r}
                    self.assertEqual(picture(t, **window), plain_picture(HOUSE, **window))

    def test_the_set_0_lights_nothing(self):
        self.assertEqual(ask(LINE, a=0, w=64, h=64, r=4095), [512] + [0] * 512)
        self.assertEqual(ask(LINE, a=0, w=9, h=2, r=0), [4, 0, 0, 0, 0])

    def test_all_of_64_pieces(self):
        for strokes in ([zigzag(64, 9)], short_strokes(64)):
            t = drawing(*strokes)
            for a in (2 ** 64 - 1, 2 ** 63, 1, 0x5555555555555555):
                window = {"a": a, "x": 200, "y": 4, "w": 64, "h": 7, "s": 1, "r": 1}
                self.assertEqual(picture(t, **window), plain_picture(strokes, **window))

    def test_each_piece_has_its_own_bit(self):
        t = drawing(*short_strokes(64))
        for i in range(64):
            lit = ["#" if j == i % 16 else "." for j in range(16)]
            self.assertEqual(picture(t, a=2 ** i, x=64 * (i // 16), y=7, w=16, h=1, s=4, r=0), ["".join(lit)])

    def test_windows_beside_the_drawing(self):
        self.assertEqual(ask(LINE, x=11, y=0, w=8, h=2, r=0), [2, 0, 0])
        self.assertEqual(ask(LINE, x=-4096, y=-4096, w=64, h=64, s=64, r=0), [512] + [0] * 512)
        self.assertEqual(ask(LINE, x=4095, y=4095, w=3, h=2, s=64, r=4095), [2, 0, 0])
        self.assertEqual(picture(LINE, x=7, y=-1, w=8, h=3, r=1), ["####....", "#####...", "####...."])
        self.assertEqual(picture(LINE, x=-5, y=-3, w=8, h=4, r=2), ["........", ".....###", "....####", "...#####"])

    def test_corners_below_0(self):
        t = drawing([(0, 0), (0, 2)])
        self.assertEqual(picture(t, x=-4096, y=0, w=3, h=1, s=1, r=4095), [".##"])
        self.assertEqual(picture(t, x=0, y=-4096, w=1, h=3, s=1, r=4095), [".", "#", "#"])

    def test_steps_reach_the_far_end_of_a_window(self):
        t = drawing([(4000, 4000), (4032, 4032)])
        self.assertEqual(picture(t, x=0, y=0, w=64, h=64, s=64, r=0)[63], "." * 63 + "#")
        self.assertEqual(picture(t, x=4032, y=4032, w=2, h=2, s=64, r=91), ["##", "##"])
        self.assertEqual(picture(t, x=4032, y=4032, w=2, h=2, s=64, r=90), ["##", "#."])

    def test_columns_are_x_and_rows_are_y(self):
        t = drawing([(3, 1), (5, 1)])
        self.assertEqual(picture(t, x=0, y=0, w=8, h=3, r=0), ["........", "...###..", "........"])


class Reach(unittest.TestCase):
    """Distances that are just the reach, and just beyond it: what bits shows, lit tells too."""

    def lit(self, points, x, y, r):
        answer = ask(drawing(points), x=x, y=y, w=1, h=1, s=1, r=r)
        self.assertIn(answer, ([1, 0], [1, 128]))
        self.assertEqual(ask_of("lit", drawing(points), x=x, y=y, r=r), [answer[1] // 128])
        return answer == [1, 128]

    def just(self, points, x, y, r):
        """The distance is r itself."""
        self.assertTrue(self.lit(points, x, y, r))
        self.assertFalse(self.lit(points, x, y, r - 1))

    def beyond(self, points, x, y, r):
        """The distance is above r, but below r + 1."""
        self.assertFalse(self.lit(points, x, y, r))
        self.assertTrue(self.lit(points, x, y, r + 1))

    def test_at_an_end(self):
        for points in ([(10, 10), (20, 10)], [(20, 10), (10, 10)]):
            self.just(points, 5, 10, 5)
            self.just(points, 7, 6, 5)
            self.just(points, 23, 14, 5)
            self.just(points, 25, 10, 5)
            self.beyond(points, 7, 5, 5)
            self.beyond(points, 24, 14, 5)
            self.beyond(points, 6, 7, 4)

    def test_ends_of_slanted_pieces(self):
        for points in ([(100, 100), (107, 103)], [(107, 103), (100, 100)]):
            self.just(points, 97, 96, 5)
            self.just(points, 110, 107, 5)
            self.beyond(points, 97, 95, 5)
            self.beyond(points, 111, 107, 5)

    def test_beside_the_midst(self):
        self.just([(10, 10), (20, 10)], 15, 13, 3)
        self.just([(10, 10), (20, 10)], 10, 7, 3)
        self.just([(10, 10), (20, 10)], 20, 13, 3)
        self.beyond([(10, 10), (20, 10)], 9, 13, 3)
        self.beyond([(10, 10), (20, 10)], 21, 7, 3)
        self.just([(10, 10), (10, 20)], 6, 15, 4)

    def test_beside_slanted_pieces(self):
        # Beside a piece of direction (4, 3) or (12, 5) distances are fifths or thirteenths.
        self.just([(0, 0), (40, 30)], 20 - 3, 15 + 4, 5)
        self.just([(0, 0), (40, 30)], 20 + 6, 15 - 8, 10)
        self.beyond([(0, 0), (40, 30)], 17, 20, 5)
        self.beyond([(0, 0), (40, 30)], 16, 19, 5)
        self.just([(0, 0), (120, 50)], 60 - 5, 25 + 12, 13)
        self.beyond([(0, 0), (120, 50)], 55, 38, 13)
        self.just([(120, 50), (0, 0)], 55, 37, 13)

    def test_nearest_on_a_line_but_not_on_the_piece(self):
        self.assertFalse(self.lit([(0, 0), (10, 0)], 100, 0, 89))
        self.assertTrue(self.lit([(0, 0), (10, 0)], 100, 0, 90))
        self.assertFalse(self.lit([(10, 10), (20, 20)], 0, 0, 14))
        self.assertTrue(self.lit([(10, 10), (20, 20)], 0, 0, 15))

    def test_reach_0_is_on_the_piece_itself(self):
        self.assertTrue(self.lit([(0, 0), (9, 6)], 3, 2, 0))
        self.assertTrue(self.lit([(0, 0), (9, 6)], 9, 6, 0))
        self.assertFalse(self.lit([(0, 0), (9, 6)], 4, 3, 0))
        self.assertFalse(self.lit([(0, 0), (9, 6)], 12, 8, 0))
        self.assertFalse(self.lit([(0, 0), (9, 6)], -3, -2, 0))
        self.assertFalse(self.lit([(0, 0), (4095, 4094)], 2048, 2048, 0))
        self.assertFalse(self.lit([(0, 0), (4095, 4094)], 2048, 2047, 0))

    def test_differences_that_rounded_roots_lose(self):
        self.just([(4095, 0), (4095, 4095)], 0, 4095, 4095)
        self.assertFalse(self.lit([(4095, 0), (4095, 4094)], 0, 4095, 4095))
        self.beyond([(4094, 0), (4094, 4094)], 0, 4095, 4094)
        self.just([(0, 0), (4, 3)], -3276, -2457, 4095)
        self.assertFalse(self.lit([(0, 0), (4, 3)], -3277, -2457, 4095))
        for piece, x, y, r in NEARLY:
            square = plain_square(piece, x, y)
            self.assertLess(abs(square - r * r), Fraction(1, 200))
            self.assertNotEqual(square, r * r)
            self.assertIs(self.lit(list(piece), x, y, r), square < r * r)


class Bytes(unittest.TestCase):
    def test_widths(self):
        full = drawing([(0, 0), (4095, 0)])
        whole = {1: [128], 7: [254], 8: [255], 9: [255, 128], 15: [255, 254], 16: [255, 255], 17: [255, 255, 128],
                 63: [255] * 7 + [254], 64: [255] * 8}
        for w, row in whole.items():
            with self.subTest(w=w):
                self.assertEqual(ask(full, w=w, h=1, r=0), [len(row)] + row)
                self.assertEqual(ask(full, w=w, h=3, r=1), [3 * len(row)] + row + row + [0] * len(row))

    def test_all_widths(self):
        full = drawing([(0, 0), (4095, 0)])
        for w in range(1, 65):
            self.assertEqual(picture(full, w=w, h=2, r=0), ["#" * w, "." * w])

    def test_heights(self):
        upright = drawing([(0, 0), (0, 4095)])
        self.assertEqual(ask(upright, w=1, h=1, r=0), [1, 128])
        self.assertEqual(ask(upright, w=1, h=64, r=0), [64] + [128] * 64)
        self.assertEqual(ask(upright, w=64, h=64, r=0), [512] + ([128] + [0] * 7) * 64)

    def test_bits_of_a_byte(self):
        for i in range(24):
            dot = drawing([(i, 1), (i, 2)])
            row = [0, 0, 0]
            row[i // 8] = 128 >> (i % 8)
            self.assertEqual(ask(dot, w=24, h=2, r=0), [6, 0, 0, 0] + row)

    def test_all_are_whole_numbers(self):
        answer = ask(drawing(*HOUSE), a=255, w=20, h=20, r=2)
        self.assertIs(type(answer), list)
        self.assertEqual({type(number) for number in answer}, {int})


if __name__ == "__main__":
    unittest.main()
