"""What lit tells of a spot."""

import random
import unittest

from tests.helper import LINE, ask_of, drawing, picture, pieces_of, plain_square, random_cases, short_strokes, zigzag

SLANTED = [(1000, 1000), (1400, 1300)]
FAR = (-65536, 65535)


def told(points, x, y, r):
    return ask_of("lit", drawing(points), a=2 ** (len(points) - 1) - 1, x=x, y=y, r=r)


class Reach(unittest.TestCase):
    """Spots just at the reach, and just beyond it."""

    def just(self, points, x, y, r):
        """The distance is r itself, whichever end is the first."""
        for turned in (points, points[::-1]):
            self.assertEqual(told(turned, x, y, r), [1])
            self.assertEqual(told(turned, x, y, r + 1), [1])
            self.assertEqual(told(turned, x, y, r - 1), [0])

    def beyond(self, points, x, y, r):
        """The distance is above r, but below r + 1, whichever end is the first."""
        for turned in (points, points[::-1]):
            self.assertEqual(told(turned, x, y, r), [0])
            self.assertEqual(told(turned, x, y, r + 1), [1])

    def test_beside_the_first_end(self):
        self.just(SLANTED, 996, 997, 5)
        self.just(SLANTED, 995, 1000, 5)
        self.just(SLANTED, 1000, 995, 5)
        self.just(SLANTED, 1003, 996, 5)
        self.just(SLANTED, 997, 1004, 5)
        self.beyond(SLANTED, 996, 996, 5)
        self.beyond(SLANTED, 994, 999, 6)
        self.beyond(SLANTED, 1003, 995, 5)

    def test_beside_the_second_end(self):
        self.just(SLANTED, 1404, 1303, 5)
        self.just(SLANTED, 1405, 1300, 5)
        self.just(SLANTED, 1400, 1305, 5)
        self.just(SLANTED, 1403, 1296, 5)
        self.just(SLANTED, 1397, 1304, 5)
        self.beyond(SLANTED, 1404, 1304, 5)
        self.beyond(SLANTED, 1406, 1301, 6)
        self.beyond(SLANTED, 1397, 1305, 5)

    def test_beside_the_midst(self):
        self.just(SLANTED, 1200 - 3, 1150 + 4, 5)
        self.just(SLANTED, 1200 + 3, 1150 - 4, 5)
        self.just(SLANTED, 1200 - 300, 1150 + 400, 500)
        self.beyond(SLANTED, 1196, 1154, 5)
        self.beyond(SLANTED, 1197, 1155, 5)
        self.beyond(SLANTED, 1204, 1146, 5)
        self.beyond([(0, 0), (1, 1)], 1, 0, 0)

    def test_reach_0(self):
        for x, y in ((1000, 1000), (1004, 1003), (1200, 1150), (1400, 1300)):
            self.assertEqual(told(SLANTED, x, y, 0), [1])
        for x, y in ((996, 997), (1404, 1303), (1200, 1151), (1199, 1150), (1001, 1001), (1399, 1299)):
            self.assertEqual(told(SLANTED, x, y, 0), [0])

    def test_greatest_reach(self):
        self.assertEqual(told([(0, 0), (0, 9)], -4095, 0, 4095), [1])
        self.assertEqual(told([(0, 0), (0, 9)], -4095, 0, 4094), [0])
        self.assertEqual(told([(0, 0), (0, 9)], -4096, 0, 4095), [0])
        self.assertEqual(told([(0, 0), (0, 9)], -4095, -1, 4095), [0])
        self.assertEqual(told([(0, 0), (0, 9)], -3276, -2457, 4095), [1])
        self.assertEqual(told([(4095, 0), (4095, 4095)], 8190, 4095, 4095), [1])
        self.assertEqual(told([(4095, 0), (4095, 4095)], 8190, 4096, 4095), [0])
        self.assertEqual(told([(4095, 0), (4095, 4095)], 8191, 4095, 4095), [0])
        for r in (4096, 4097, 65536, 2 ** 32 - 1):
            self.assertEqual(told([(0, 0), (0, 9)], 0, 0, r), [-1])


class Spots(unittest.TestCase):
    def test_at_the_limits(self):
        for far in FAR:
            for near in (0, 4095, -1, *FAR):
                self.assertEqual(ask_of("lit", LINE, x=far, y=near, r=4095), [0])
                self.assertEqual(ask_of("lit", LINE, x=near, y=far, r=4095), [0])

    def test_beyond_the_limits(self):
        for far in (-65537, 65536, -2 ** 31, 2 ** 31 - 1):
            for near in (0, 4095, -1, *FAR):
                self.assertEqual(ask_of("lit", LINE, x=far, y=near, r=4095), [-1])
                self.assertEqual(ask_of("lit", LINE, x=near, y=far, r=4095), [-1])

    def test_empty_set(self):
        for x, y in ((0, 0), (5, 0), (3, 3), (-65536, 65535)):
            for r in (0, 4095):
                self.assertEqual(ask_of("lit", LINE, a=0, x=x, y=y, r=r), [0])

    def test_only_the_sets_pieces_light(self):
        t = drawing([(0, 0), (10, 0), (10, 10)], [(50, 50), (60, 60)])
        lit_by = {(0, 0): 0b001, (10, 0): 0b011, (10, 5): 0b010, (55, 55): 0b100, (5, 5): 0}
        for (x, y), pieces in lit_by.items():
            for a in range(8):
                self.assertEqual(ask_of("lit", t, a=a, x=x, y=y, r=0), [int(a & pieces != 0)])

    def test_each_of_64_pieces(self):
        t = drawing(*short_strokes(64))
        for i in range(64):
            self.assertEqual(ask_of("lit", t, a=2 ** i, x=4 * i + 2, y=8, r=0), [1])
            self.assertEqual(ask_of("lit", t, a=2 ** 64 - 1 - 2 ** i, x=4 * i + 2, y=8, r=0), [0])
        self.assertEqual(ask_of("lit", drawing(zigzag(64)), a=2 ** 64 - 1, x=256, y=0, r=0), [1])


class ManySpots(unittest.TestCase):
    def test_just_if_a_point_is_no_farther(self):
        answers = []
        for strokes, t, window in random_cases(60):
            source = random.Random(str(window))
            chosen = [piece for i, piece in enumerate(pieces_of(strokes)) if window["a"] >> i & 1]
            for _ in range(20):
                x, y, r = source.randint(-9, 32), source.randint(-9, 32), source.randint(0, 9)
                near_one = any(plain_square(piece, x, y) <= r * r for piece in chosen)
                self.assertEqual(ask_of("lit", t, a=window["a"], x=x, y=y, r=r), [int(near_one)])
                answers.append(near_one)
        self.assertGreater(answers.count(True), 200)
        self.assertGreater(answers.count(False), 200)

    def test_far_spots(self):
        source = random.Random(3)
        lit = 0
        for _ in range(1500):
            points = [(source.randint(0, 4095), source.randint(0, 4095)) for _ in range(2)]
            x, y, r = source.randint(-4000, 8000), source.randint(-4000, 8000), source.randint(0, 4095)
            near_one = plain_square(points, x, y) <= r * r
            lit += near_one
            self.assertEqual(told(points, x, y, r), [int(near_one)])
        self.assertGreater(lit, 200)

    def test_as_the_pictures_spots(self):
        for strokes, t, window in random_cases(60)[:25]:
            for j, row in enumerate(picture(t, **window)):
                for i, sign in enumerate(row):
                    x, y = window["x"] + window["s"] * i, window["y"] + window["s"] * j
                    answer = ask_of("lit", t, a=window["a"], x=x, y=y, r=window["r"])
                    self.assertEqual(answer, [int(sign == "#")])

    def test_greater_reach_and_greater_set(self):
        for strokes, t, window in random_cases(60):
            spot = {"x": window["x"] + 5, "y": window["y"] + 5}
            by_reach = [ask_of("lit", t, a=window["a"], r=r, **spot) for r in (0, 1, 2, 3, 5, 9, 20, 100, 4095)]
            self.assertEqual(by_reach, sorted(by_reach))
            pieces = len(pieces_of(strokes))
            by_set = [ask_of("lit", t, a=2 ** i - 1, r=4, **spot) for i in range(pieces + 1)]
            self.assertEqual(by_set, sorted(by_set))
            for i in range(pieces):
                self.assertGreaterEqual(ask_of("lit", t, a=window["a"] | 1 << i, r=4, **spot),
                                        ask_of("lit", t, a=window["a"], r=4, **spot))


if __name__ == "__main__":
    unittest.main()
