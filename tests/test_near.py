"""What near tells: the nearest piece, the square of its distance, and which of its points is nearest."""

import itertools
import math
import random
import unittest
from fractions import Fraction

from tests.helper import LINE, ask_of, drawing, pieces_of, plain_square, random_cases, short_strokes, zigzag
from tubepicture.squares import common_divisor, is_less, lowest_terms


def told(strokes, x, y, a=None):
    """near of these strokes; of all their pieces where no set is given."""
    return ask_of("near", drawing(*strokes), a=2 ** len(pieces_of(strokes)) - 1 if a is None else a, x=x, y=y)


def plain_near(strokes, a, x, y):
    """The same answer, by way of fractions and of all pieces in order."""
    numbered = [(plain_square(piece, x, y), i) for i, piece in enumerate(pieces_of(strokes)) if a >> i & 1]
    square, number = min(numbered)
    first, second = pieces_of(strokes)[number]
    ends = [(end[0] - x) ** 2 + (end[1] - y) ** 2 for end in (first, second)]
    which = ends.index(square) if square in ends else 2
    return [number, square.numerator, square.denominator, which]


class OnePiece(unittest.TestCase):
    def check(self, points, x, y, square, which):
        """The piece as it stands, and turned: then its other end is the first."""
        above, below = square
        self.assertEqual(told([points], x, y), [0, above, below, which])
        self.assertEqual(told([points[::-1]], x, y), [0, above, below, (1, 0, 2)[which]])

    def test_nearest_is_an_end(self):
        points = [(10, 10), (20, 15)]
        self.check(points, 7, 6, (25, 1), 0)
        self.check(points, -5, 10, (225, 1), 0)
        self.check(points, 10, 9, (1, 1), 0)
        self.check(points, 21, 16, (2, 1), 1)
        self.check(points, 30, 20, (125, 1), 1)

    def test_beside_an_end_it_is_the_end(self):
        # Straight aside of an end: the point between the ends would be that end itself.
        points = [(10, 10), (20, 15)]
        self.check(points, 9, 12, (5, 1), 0)
        self.check(points, 11, 8, (5, 1), 0)
        self.check(points, 19, 17, (5, 1), 1)
        self.check(points, 21, 13, (5, 1), 1)
        self.check([(0, 0), (10, 0)], 0, 7, (49, 1), 0)
        self.check([(0, 0), (10, 0)], 10, -7, (49, 1), 1)
        self.check([(0, 0), (10, 0)], 1, 7, (49, 1), 2)
        self.check([(0, 0), (10, 0)], 9, -7, (49, 1), 2)

    def test_nearest_is_between(self):
        self.check([(0, 0), (10, 0)], 5, 3, (9, 1), 2)
        self.check([(0, 0), (1, 2)], 1, 1, (1, 5), 2)
        self.check([(0, 0), (3, 2)], 1, 1, (1, 13), 2)
        self.check([(0, 0), (3, 2)], 2, 1, (1, 13), 2)
        self.check([(0, 0), (3, 2)], 1, 2, (16, 13), 2)

    def test_on_the_piece(self):
        self.check([(0, 0), (9, 6)], 3, 2, (0, 1), 2)
        self.check([(0, 0), (9, 6)], 6, 4, (0, 1), 2)
        self.check([(0, 0), (4095, 4095)], 2047, 2047, (0, 1), 2)

    def test_on_the_ends(self):
        self.check([(0, 0), (9, 6)], 0, 0, (0, 1), 0)
        self.check([(0, 0), (9, 6)], 9, 6, (0, 1), 1)
        self.check([(4095, 4095), (4094, 4095)], 4095, 4095, (0, 1), 0)

    def test_on_its_line_but_not_on_it(self):
        self.check([(0, 0), (9, 6)], -3, -2, (13, 1), 0)
        self.check([(0, 0), (9, 6)], 12, 8, (13, 1), 1)

    def test_fractions_are_shortened(self):
        # Before that they are 4 / 8, 100 / 20, 676 / 100, 36 / 72 and so on; the last can't be shortened.
        self.check([(0, 0), (2, 2)], 1, 0, (1, 2), 2)
        self.check([(0, 0), (2, 4)], 3, 1, (5, 1), 2)
        self.check([(0, 0), (8, 6)], 1, 4, (169, 25), 2)
        self.check([(0, 0), (6, 6)], 3, 2, (1, 2), 2)
        self.check([(0, 0), (40, 30)], 17, 19, (25, 1), 2)
        self.check([(0, 0), (4094, 4094)], 2047, 2046, (1, 2), 2)
        self.check([(0, 0), (4095, 4094)], 2047, 2047, (2047 ** 2, 4095 ** 2 + 4094 ** 2), 2)


class SeveralPieces(unittest.TestCase):
    def test_the_nearest(self):
        strokes = [[(0, 0), (10, 0)], [(0, 10), (10, 10)], [(50, 50), (40, 50)]]
        self.assertEqual(told(strokes, 5, 4), [0, 16, 1, 2])
        self.assertEqual(told(strokes, 5, 6), [1, 16, 1, 2])
        self.assertEqual(told(strokes, 60, 50), [2, 100, 1, 0])
        self.assertEqual(told(strokes, 39, 50), [2, 1, 1, 1])

    def test_of_equals_the_least_number(self):
        strokes = [[(0, 0), (10, 0)], [(0, 10), (10, 10)]]
        self.assertEqual(told(strokes, 5, 5), [0, 25, 1, 2])
        self.assertEqual(told(strokes[::-1], 5, 5), [0, 25, 1, 2])
        self.assertEqual(told(strokes, -3, 5), [0, 34, 1, 0])
        # One by its end, one by a point between: the square 25 is told as 25 / 1 of either.
        mixed = [[(0, 0), (40, 30)], [(13, 22), (0, 90)]]
        self.assertEqual(told(mixed, 17, 19), [0, 25, 1, 2])
        self.assertEqual(told(mixed[::-1], 17, 19), [0, 25, 1, 0])

    def test_joints_belong_to_the_least_number(self):
        corner = [[(0, 0), (10, 0), (10, 10)]]
        self.assertEqual(told(corner, 10, 0), [0, 0, 1, 1])
        self.assertEqual(told(corner, 13, -4), [0, 25, 1, 1])
        self.assertEqual(told(corner, 10, 0, a=0b10), [1, 0, 1, 0])
        self.assertEqual(told(corner, 9, 1), [0, 1, 1, 2])
        self.assertEqual(told(corner, 9, 2), [1, 1, 1, 2])
        rays = [[(20 + dx, 20 + dy), (20, 20)] for dx in (-9, 0, 9) for dy in (-9, 0, 9) if dx or dy]
        for a in (0b11111111, 0b11111110, 0b10100000, 0b10000000):
            self.assertEqual(told(rays, 20, 20, a=a), [(a & -a).bit_length() - 1, 0, 1, 1])

    def test_only_the_sets_pieces(self):
        strokes = [[(0, 0), (10, 0)], [(0, 10), (10, 10)], [(0, 20), (10, 20)]]
        self.assertEqual(told(strokes, 5, 1, a=0b111), [0, 1, 1, 2])
        self.assertEqual(told(strokes, 5, 1, a=0b110), [1, 81, 1, 2])
        self.assertEqual(told(strokes, 5, 1, a=0b100), [2, 361, 1, 2])
        self.assertEqual(told(strokes, 5, 15, a=0b110), [1, 25, 1, 2])
        self.assertEqual(told(strokes, 5, 10, a=0b101), [0, 100, 1, 2])

    def test_each_of_64_pieces(self):
        strokes = short_strokes(64)
        for i in range(64):
            self.assertEqual(told(strokes, 4 * i, 7), [i, 0, 1, 0])
            self.assertEqual(told(strokes, 4 * i + 2, 8), [i, 0, 1, 1])
            self.assertEqual(told(strokes, 0, 0, a=2 ** i), [i, 16 * i * i + 49, 1, 0])
        self.assertEqual(told([zigzag(64)], 256, 0), [63, 0, 1, 1])

    def test_hardly_nearer(self):
        # The slanted pieces are hardly nearer, or hardly farther, than a short one's end that is just r away.
        sides = []
        for slanted, x, y, r in (([(0, 0), (3326, 2278)], 2507, 465, 1033), ([(0, 0), (2803, 3652)], 2531, 2662, 387),
                                 ([(0, 0), (3556, 4054)], 985, 944, 118), ([(0, 0), (3733, 2674)], 3091, 2855, -521),
                                 ([(0, 0), (4040, 3654)], 1781, 1925, -233)):
            short = [(x + r, y), (x + r + r // abs(r), y)]
            square = plain_square(slanted, x, y)
            self.assertTrue(0 < abs(square - r * r) < Fraction(1, 200))
            sides.append(square < r * r)
            for strokes in ([slanted, short], [short, slanted]):
                answer = told(strokes, x, y)
                self.assertEqual(answer, plain_near(strokes, 3, x, y))
                self.assertEqual(strokes[answer[0]] == slanted, square < r * r)
        self.assertEqual(set(sides), {True, False})

    def test_of_far_pieces_the_nearest(self):
        strokes = [[(0, 1), (0, 0)], [(1, 0), (1, 1)]]
        self.assertEqual(told(strokes, 65535, 65535), [1, 65534 ** 2 + 65534 ** 2, 1, 1])
        self.assertEqual(told(strokes, -65536, 65535), [0, 65536 ** 2 + 65534 ** 2, 1, 0])


class Limits(unittest.TestCase):
    def test_at_the_limits(self):
        for x, y in itertools.product((-65536, 65535, 0), repeat=2):
            self.assertEqual(ask_of("near", LINE, x=x, y=y), plain_near([[(0, 0), (10, 0)]], 1, x, y))
        self.assertEqual(ask_of("near", LINE, x=-65536, y=-65536), [0, 2 ** 33, 1, 0])
        self.assertEqual(ask_of("near", LINE, x=65535, y=0), [0, 65525 ** 2, 1, 1])
        slanted = [[(0, 4095), (4095, 0)]]
        for x, y in ((-65536, -65536), (65535, 65535), (-61440, 65535), (65535, -61440), (65535, -65536)):
            self.assertEqual(told(slanted, x, y), plain_near(slanted, 1, x, y))

    def test_beyond_the_limits(self):
        for far in (-65537, 65536, -2 ** 31, 2 ** 31 - 1):
            for other in (0, -65536, 65535, far):
                self.assertEqual(ask_of("near", LINE, x=far, y=other), [-1])
                self.assertEqual(ask_of("near", LINE, x=other, y=far), [-1])


class ManySpots(unittest.TestCase):
    def answers(self):
        """(pieces, set, text, spot, answer) of many spots."""
        for strokes, t, window in random_cases(60):
            source = random.Random(str(window))
            a = window["a"] or 1
            for _ in range(30):
                x, y = source.randint(-9, 32), source.randint(-9, 32)
                yield strokes, a, t, (x, y), ask_of("near", t, a=a, x=x, y=y)

    def test_as_plain_fractions_tell(self):
        seen = []
        for strokes, a, t, (x, y), answer in self.answers():
            self.assertEqual(answer, plain_near(strokes, a, x, y))
            seen.append(answer[3])
        for which in (0, 1, 2):
            self.assertGreater(seen.count(which), 100)

    def test_2_at_most_as_far_as_any_other(self):
        ties = 0
        for strokes, a, t, (x, y), answer in self.answers():
            square = Fraction(answer[1], answer[2])
            for i, piece in enumerate(pieces_of(strokes)):
                if a >> i & 1:
                    other = plain_square(piece, x, y)
                    self.assertLessEqual(square, other)
                    self.assertFalse(other == square and i < answer[0])
                    ties += other == square and i > answer[0]
        self.assertGreater(ties, 50)

    def test_2_the_square_is_that_of_the_point_told(self):
        for strokes, a, t, (x, y), (number, above, below, which) in self.answers():
            self.assertEqual(a >> number & 1, 1)
            self.assertEqual(math.gcd(above, below), 1)
            piece = pieces_of(strokes)[number]
            self.assertEqual(Fraction(above, below), plain_square(piece, x, y))
            squares = [(end[0] - x) ** 2 + (end[1] - y) ** 2 for end in piece]
            if which == 2:
                self.assertLess(Fraction(above, below), min(squares))
            else:
                self.assertEqual((above, below), (squares[which], 1))

    def test_far_spots(self):
        source = random.Random(11)
        for _ in range(600):
            points = [(source.randint(0, 4095), source.randint(0, 4095)) for _ in range(2)]
            size = source.choice((5000, 65535))
            x, y = source.randint(-size, size), source.randint(-size, size)
            self.assertEqual(told([points], x, y), plain_near([points], 1, x, y))

    def test_lit_just_from_that_reach_on(self):
        whole = 0
        for strokes, a, t, (x, y), (number, above, below, which) in self.answers():
            reach = next(r for r in itertools.count() if r * r * below >= above)
            whole += reach * reach * below == above
            self.assertEqual(ask_of("lit", t, a=a, x=x, y=y, r=reach), [1])
            self.assertEqual(ask_of("lit", t, a=a, x=x, y=y, r=reach + 1), [1])
            if reach > 0:
                self.assertEqual(ask_of("lit", t, a=a, x=x, y=y, r=reach - 1), [0])
        self.assertGreater(whole, 100)

    def test_lit_just_from_that_reach_on_far_away(self):
        source = random.Random(12)
        lit = 0
        for _ in range(300):
            t = drawing([(source.randint(0, 2000), source.randint(0, 4095)), (source.randint(2001, 4095), 9)])
            spot = {"x": source.randint(-5000, 9000), "y": source.randint(-5000, 9000)}
            number, above, below, which = ask_of("near", t, **spot)
            reach = math.isqrt(-(-above // below) - 1) + 1 if above else 0
            for r in (reach - 1, reach):
                if 0 <= r <= 4095:
                    self.assertEqual(ask_of("lit", t, r=r, **spot), [int(r == reach)])
                    lit += r == reach
            if reach > 4095:
                self.assertEqual(ask_of("lit", t, r=4095, **spot), [0])
        self.assertGreater(lit, 100)


class Fractions(unittest.TestCase):
    def test_divisors_and_lowest_terms(self):
        for one in range(0, 40):
            for other in range(1, 40):
                self.assertEqual(common_divisor(one, other), math.gcd(one, other))
                fraction = Fraction(one, other)
                self.assertEqual(lowest_terms((one, other)), [fraction.numerator, fraction.denominator])
        self.assertEqual(lowest_terms((0, 12345)), [0, 1])

    def test_which_is_less(self):
        for one, below, other, under in itertools.product(range(5), range(1, 5), range(5), range(1, 5)):
            self.assertIs(is_less((one, below), (other, under)), Fraction(one, below) < Fraction(other, under))


if __name__ == "__main__":
    unittest.main()
