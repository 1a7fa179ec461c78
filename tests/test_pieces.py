"""Which pieces meet badly."""

import random
import unittest

from tests.helper import ask, drawing, plain_meet_badly
from tubepicture.pieces import Piece, meet_badly

BAD = {
    "cross": ((0, 0), (4, 4), (0, 4), (4, 0)),
    "cross at a point that is not whole": ((0, 0), (1, 3), (0, 2), (1, 0)),
    "an end in the midst": ((0, 0), (10, 0), (5, 0), (5, 5)),
    "an end in the midst of a slanted one": ((0, 0), (9, 3), (3, 1), (3, 8)),
    "lie over one another": ((0, 0), (6, 0), (4, 0), (9, 0)),
    "lie over one another, upright": ((2, 0), (2, 6), (2, 9), (2, 5)),
    "lie over one another, slanted": ((0, 0), (6, 9), (2, 3), (8, 12)),
    "one within the other": ((0, 0), (9, 0), (3, 0), (5, 0)),
    "one within the other from an end on": ((0, 0), (9, 9), (0, 0), (5, 5)),
    "one within the other up to an end": ((9, 0), (0, 0), (3, 0), (0, 0)),
    "the same": ((1, 2), (3, 4), (1, 2), (3, 4)),
    "the same, turned": ((1, 2), (3, 4), (3, 4), (1, 2)),
    "the greatest": ((0, 0), (4095, 4095), (0, 4095), (4095, 0)),
    "hardly cross": ((0, 0), (4095, 4094), (4094, 4095), (4094, 4093)),
}
WELL = {
    "apart": ((0, 0), (4, 4), (0, 9), (4, 7)),
    "side by side": ((0, 0), (9, 0), (0, 1), (9, 1)),
    "a corner": ((0, 0), (4, 0), (4, 0), (4, 4)),
    "first ends": ((0, 0), (4, 0), (0, 0), (3, 3)),
    "second ends": ((9, 0), (0, 0), (0, 7), (0, 0)),
    "straight on": ((0, 0), (4, 2), (4, 2), (8, 4)),
    "straight away from one another": ((4, 4), (0, 0), (4, 4), (9, 9)),
    "on one line, apart": ((0, 0), (4, 0), (5, 0), (9, 0)),
    "on one upright line, apart": ((3, 0), (3, 4), (3, 9), (3, 5)),
    "one points at the other": ((0, 0), (10, 0), (5, 1), (5, 6)),
    "hardly beside": ((0, 0), (4095, 4094), (4094, 4094), (0, 1)),
    "hardly beside the midst": ((0, 0), (4095, 4094), (2047, 2047), (0, 9)),
}


def ways(a, b, c, d):
    """The same two pieces, each turned or not, in both orders."""
    return [((one, other), (third, fourth)) for one, other, third, fourth in
            [(a, b, c, d), (b, a, c, d), (a, b, d, c), (b, a, d, c), (c, d, a, b), (d, c, a, b), (c, d, b, a),
             (d, c, b, a)]]


class MeetBadly(unittest.TestCase):
    def check(self, one, other, bad):
        self.assertIs(meet_badly(Piece(*one), Piece(*other)), bad, (one, other))
        self.assertIs(plain_meet_badly(one, other), bad, (one, other))
        self.assertEqual(ask(drawing(list(one), list(other))) == [-6], bad, (one, other))

    def test_bad(self):
        for name, points in BAD.items():
            with self.subTest(name=name):
                for one, other in ways(*points):
                    self.check(one, other, True)

    def test_well(self):
        for name, points in WELL.items():
            with self.subTest(name=name):
                for one, other in ways(*points):
                    self.check(one, other, False)

    def test_within_one_stroke(self):
        self.assertEqual(ask(drawing([(0, 0), (9, 0), (3, 0)])), [-6])
        self.assertEqual(ask(drawing([(0, 0), (9, 0), (0, 0)])), [-6])
        self.assertEqual(ask(drawing([(0, 0), (9, 0), (9, 9), (5, 0)])), [-6])
        self.assertNotEqual(ask(drawing([(0, 0), (9, 0), (12, 0)])), [-6])
        self.assertNotEqual(ask(drawing([(0, 0), (4, 4), (8, 8), (8, 0), (4, 4), (0, 8)])), [-6])

    def test_many(self):
        source = random.Random(7)
        bad = 0
        for _ in range(6000):
            size = source.choice((3, 4, 6, 12))
            points = [(source.randrange(size), source.randrange(size)) for _ in range(4)]
            if points[0] != points[1] and points[2] != points[3]:
                one, other = tuple(points[:2]), tuple(points[2:])
                told = plain_meet_badly(one, other)
                bad += told
                self.assertIs(meet_badly(Piece(*one), Piece(*other)), told, points)
        self.assertGreater(bad, 1000)


if __name__ == "__main__":
    unittest.main()
