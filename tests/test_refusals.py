"""What bits refuses, and which refusal comes first."""

import unittest

from tests.helper import LINE, ask, drawing, short_strokes, text, zigzag

LIMITS = {"x": (-4096, 4095), "y": (-4096, 4095), "w": (1, 64), "h": (1, 64), "s": (1, 64), "r": (0, 4095)}
FARTHEST = {"x": (-2 ** 31, 2 ** 31 - 1), "y": (-2 ** 31, 2 ** 31 - 1), "w": (0, 2 ** 32 - 1),
            "h": (0, 2 ** 32 - 1), "s": (0, 2 ** 32 - 1), "r": (0, 2 ** 32 - 1)}
LONG = [65] * 65537
WRONG = text("sign A", "stroke 0,0 0,0")
WRONG_BY_KIND = {
    1: text("sign A", "stroke 0,0"),
    2: text("sign A", "stroke 0,0 4096,0"),
    3: WRONG,
    4: drawing(*short_strokes(65)),
    5: drawing([(0, 0), (9, 9)], [(0, 9), (9, 0)]),
    6: drawing(*[[(50, 50), (45 + i, 60)] for i in range(9)]),
}


class TooLong(unittest.TestCase):
    def test_65536_bytes_are_not_too_many(self):
        self.assertEqual(ask([65] * 65536), [-6])
        self.assertEqual(ask(LINE + [10] * (65536 - len(LINE))), [-6])

    def test_65537_bytes_are_too_many(self):
        self.assertEqual(ask(LONG), [-2])
        self.assertEqual(ask(LINE + [10] * (65537 - len(LINE))), [-2])
        self.assertEqual(ask([0] * 66000), [-2])


class NoDrawing(unittest.TestCase):
    def test_each_kind(self):
        for kind, t in WRONG_BY_KIND.items():
            with self.subTest(kind=kind):
                self.assertEqual(ask(t), [-6])

    def test_the_set_does_not_choose_what_is_judged(self):
        for t in WRONG_BY_KIND.values():
            self.assertEqual(ask(t, a=0), [-6])


class WrongWindows(unittest.TestCase):
    def test_just_inside(self):
        for name, (least, greatest) in LIMITS.items():
            for value in (least, greatest):
                with self.subTest(name=name, value=value):
                    answer = ask(**{name: value})
                    self.assertGreater(answer[0], 0)
                    self.assertEqual(len(answer), 1 + answer[0])

    def test_just_outside(self):
        for name, (least, greatest) in LIMITS.items():
            for value in (least - 1, greatest + 1):
                # A reach below 0 is never handed in.
                if value >= FARTHEST[name][0]:
                    with self.subTest(name=name, value=value):
                        self.assertEqual(ask(**{name: value}), [-1])

    def test_far_outside(self):
        for name, values in FARTHEST.items():
            for value in values:
                if not LIMITS[name][0] <= value <= LIMITS[name][1]:
                    with self.subTest(name=name, value=value):
                        self.assertEqual(ask(**{name: value}), [-1])

    def test_all_at_their_limits(self):
        self.assertEqual(ask(a=1, x=-4096, y=-4096, w=64, h=64, s=64, r=4095)[0], 512)
        self.assertEqual(ask(a=1, x=4095, y=4095, w=64, h=64, s=64, r=4095)[0], 512)


class MissingPieces(unittest.TestCase):
    def test_sets(self):
        for pieces in (1, 2, 8, 63):
            t = drawing(zigzag(pieces))
            self.assertEqual(ask(t, a=2 ** pieces - 1)[0], 1)
            self.assertEqual(ask(t, a=2 ** (pieces - 1))[0], 1)
            for a in (2 ** pieces, 2 ** pieces + 1, 2 ** 63, 2 ** 64 - 1):
                with self.subTest(pieces=pieces, a=a):
                    self.assertEqual(ask(t, a=a), [-4])

    def test_64_pieces_are_all_that_a_set_can_have(self):
        self.assertEqual(ask(drawing(zigzag(64)), a=2 ** 64 - 1)[0], 1)

    def test_the_set_0_is_no_refusal(self):
        self.assertEqual(ask(a=0), [1, 0])


class Order(unittest.TestCase):
    def test_which_comes_first(self):
        self.assertEqual(ask(LONG, a=2 ** 63, w=0), [-2])
        self.assertEqual(ask(LONG, w=0), [-2])
        self.assertEqual(ask(LONG, a=2 ** 63), [-2])
        self.assertEqual(ask(LINE + [32] * 65536, r=4096), [-2])
        for t in list(WRONG_BY_KIND.values()) + [[]]:
            self.assertEqual(ask(t, a=2 ** 64 - 1, w=0), [-6])
            self.assertEqual(ask(t, r=4096), [-6])
            self.assertEqual(ask(t, a=2 ** 64 - 1), [-6])
        for name, (least, greatest) in LIMITS.items():
            self.assertEqual(ask(a=2, **{name: greatest + 1}), [-1])


if __name__ == "__main__":
    unittest.main()
