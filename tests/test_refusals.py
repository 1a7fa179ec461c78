"""What each call refuses, and which refusal comes first."""

import itertools
import unittest

from tests.helper import LINE, ask, ask_of, drawing, short_strokes, text, zigzag

WINDOW_LIMITS = {"x": (-4096, 4095), "y": (-4096, 4095), "w": (1, 64), "h": (1, 64), "s": (1, 64), "r": (0, 4095)}
SPOT_LIMITS = {"x": (-65536, 65535), "y": (-65536, 65535), "r": (0, 4095)}
FARTHEST = {"x": (-2 ** 31, 2 ** 31 - 1), "y": (-2 ** 31, 2 ** 31 - 1), "w": (0, 2 ** 32 - 1),
            "h": (0, 2 ** 32 - 1), "s": (0, 2 ** 32 - 1), "r": (0, 2 ** 32 - 1)}
LONG = [65] * 65537
WRONG_BY_KIND = {
    1: text("sign A", "stroke 0,0"),
    2: text("sign A", "stroke 0,0 4096,0"),
    3: text("sign A", "stroke 0,0 0,0"),
    4: drawing(*short_strokes(65)),
    5: drawing([(0, 0), (9, 9)], [(0, 9), (9, 0)]),
    6: drawing(*[[(50, 50), (45 + i, 60)] for i in range(9)]),
}


class Refusals:
    """What is asked of each call: a class below names it, the limits of its numbers and the form of its answers."""

    call = None
    limits = None

    def asked(self, t=None, **numbers):
        return ask_of(self.call, t, **numbers)

    def refused(self, number, t=None, **numbers):
        self.assertEqual(self.asked(t, **numbers), [number], numbers)

    def answered(self, t=None, **numbers):
        answer = self.asked(t, **numbers)
        self.assertTrue(self.has_form(answer), (numbers, answer))

    def outside(self):
        """Numbers that are each beyond one limit, hardly or far."""
        for name, (least, greatest) in self.limits.items():
            for value in (least - 1, greatest + 1, *FARTHEST[name]):
                # A reach, say, is never below 0 when it is handed in.
                if FARTHEST[name][0] <= value <= FARTHEST[name][1] and not least <= value <= greatest:
                    yield {name: value}

    def test_65536_bytes_are_not_too_many(self):
        self.refused(-6, [65] * 65536)
        self.refused(-6, LINE + [10] * (65536 - len(LINE)))

    def test_65537_bytes_are_too_many(self):
        self.refused(-2, LONG)
        self.refused(-2, LINE + [10] * (65537 - len(LINE)))
        self.refused(-2, [0] * 66000)

    def test_each_kind_of_wrong_text(self):
        for kind, t in WRONG_BY_KIND.items():
            with self.subTest(kind=kind):
                self.refused(-6, t)
                self.refused(-6, t, a=0)
        self.refused(-6, [])

    def test_inside_the_limits(self):
        for name, limits in self.limits.items():
            for value in limits:
                with self.subTest(name=name, value=value):
                    self.answered(**{name: value})
        for ends in itertools.product((0, 1), repeat=2):
            at_limits = {name: limits[1] for name, limits in self.limits.items()}
            self.answered(**dict(at_limits, x=self.limits["x"][ends[0]], y=self.limits["y"][ends[1]]))

    def test_outside_the_limits(self):
        for numbers in self.outside():
            with self.subTest(numbers=numbers):
                self.refused(-1, **numbers)

    def test_several_outside_the_limits(self):
        self.refused(-1, **{name: greatest + 1 for name, (least, greatest) in self.limits.items()})

    def test_missing_pieces(self):
        for pieces in (1, 2, 8, 63):
            t = drawing(zigzag(pieces))
            self.answered(t, a=2 ** pieces - 1)
            self.answered(t, a=2 ** (pieces - 1))
            for a in (2 ** pieces, 2 ** pieces + 1, 2 ** 63, 2 ** 64 - 1):
                with self.subTest(pieces=pieces, a=a):
                    self.refused(-4, t, a=a)

    def test_64_pieces_are_all_that_a_set_can_have(self):
        self.answered(drawing(zigzag(64)), a=2 ** 64 - 1)
        self.answered(drawing(*short_strokes(64)), a=2 ** 63)

    def wrongs(self):
        """For each refusal, in their order, what brings it about."""
        return {
            -2: [{"t": LONG}, {"t": LINE + [32] * 65536}],
            -6: [{"t": t} for t in [*WRONG_BY_KIND.values(), []]],
            -1: list(self.outside()),
            -4: [{"a": 2}, {"a": 2 ** 64 - 1}],
        }

    def test_of_two_the_first_is_told(self):
        for (first, ones), (second, others) in itertools.combinations(self.wrongs().items(), 2):
            for one, other in itertools.product(ones, others):
                with self.subTest(first=first, second=second):
                    # A text that is too long is none of a drawing's as it stands.
                    self.refused(first, **{**other, **one})

    def test_of_all_the_first_is_told(self):
        told = {}
        for number, ones in reversed(self.wrongs().items()):
            told.update(ones[0])
            self.refused(number, **told)


class BitsRefusals(Refusals, unittest.TestCase):
    call = "bits"
    limits = WINDOW_LIMITS

    def has_form(self, answer):
        return answer[0] > 0 and len(answer) == 1 + answer[0]

    def test_the_set_0_is_no_refusal(self):
        self.assertEqual(ask(a=0), [1, 0])

    def test_all_at_their_limits(self):
        self.assertEqual(ask(a=1, x=-4096, y=-4096, w=64, h=64, s=64, r=4095)[0], 512)
        self.assertEqual(ask(a=1, x=4095, y=4095, w=64, h=64, s=64, r=4095)[0], 512)


class FileRefusals(Refusals, unittest.TestCase):
    call = "file"
    limits = WINDOW_LIMITS

    def has_form(self, answer):
        return answer[0] > 7 and len(answer) == 1 + answer[0]

    def test_the_set_0_is_no_refusal(self):
        self.assertEqual(self.asked(a=0), [8, *b"P4\n8 1\n", 0])


class CountRefusals(Refusals, unittest.TestCase):
    call = "count"
    limits = WINDOW_LIMITS

    def has_form(self, answer):
        return answer[0] == 0 and len(answer) == 2 and answer[1] >= 0

    def test_the_set_0_is_no_refusal(self):
        self.assertEqual(self.asked(a=0), [0, 0])


class LitRefusals(Refusals, unittest.TestCase):
    call = "lit"
    limits = SPOT_LIMITS

    def has_form(self, answer):
        return answer in ([0], [1])

    def test_the_set_0_is_no_refusal(self):
        self.assertEqual(self.asked(a=0), [0])

    def test_spots_beside_all_windows_are_no_refusal(self):
        for x, y in ((-4097, 0), (4096, 0), (0, -4097), (0, 4096), (9000, -9000)):
            self.assertEqual(self.asked(x=x, y=y, r=1), [0])


class NearRefusals(Refusals, unittest.TestCase):
    call = "near"
    limits = {"x": SPOT_LIMITS["x"], "y": SPOT_LIMITS["y"]}

    def has_form(self, answer):
        return len(answer) == 4 and answer[0] >= 0 and answer[1] >= 0 and answer[2] > 0 and answer[3] in (0, 1, 2)

    def wrongs(self):
        return {**super().wrongs(), -5: [{"a": 0}]}

    def test_a_set_of_no_pieces(self):
        for t in (LINE, drawing(zigzag(64)), drawing(*short_strokes(64))):
            self.refused(-5, t, a=0)
            self.refused(-5, t, a=0, x=-65536, y=65535)

    def test_a_set_of_no_pieces_comes_last(self):
        self.refused(-2, LONG, a=0)
        self.refused(-1, a=0, x=65536)
        self.refused(-1, a=0, y=-65537)


if __name__ == "__main__":
    unittest.main()
