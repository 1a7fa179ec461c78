"""The promises, of many drawings, sets and windows."""

import random
import unittest

from tests.helper import drawing, picture, pieces_of, plain_picture, random_cases, random_strokes


def signs(rows):
    return "".join(rows)


def darker(fewer, more):
    """The spots that are lit in fewer but not in more."""
    return [i for i, sign in enumerate(signs(fewer)) if sign == "#" and signs(more)[i] != "#"]


class Promises(unittest.TestCase):
    @classmethod
    def setUpClass(cls):
        cls.cases = random_cases(60)

    def test_1_and_3_just_the_lit_spots(self):
        seen = ""
        for strokes, t, window in self.cases:
            rows = picture(t, **window)
            self.assertEqual(rows, plain_picture(strokes, **window), (strokes, window))
            seen += signs(rows)
        self.assertGreater(seen.count("#"), 500)
        self.assertGreater(seen.count("."), 500)

    def test_1_and_3_far_apart_points(self):
        for seed in range(12):
            source = random.Random(seed)
            strokes = random_strokes(seed, most=6, size=4096)
            window = {"a": 2 ** len(pieces_of(strokes)) - 1, "x": source.randint(-4096, 4095),
                      "y": source.randint(-4096, 4095), "w": 20, "h": 20, "s": 64, "r": source.randint(0, 1500)}
            self.assertEqual(picture(drawing(*strokes), **window), plain_picture(strokes, **window))

    def test_4_greater_reach(self):
        for strokes, t, window in self.cases:
            rows = picture(t, **window)
            for more in (1, 2, 50, 4000):
                self.assertEqual(darker(rows, picture(t, **dict(window, r=window["r"] + more))), [])

    def test_4_greater_set(self):
        for strokes, t, window in self.cases:
            rows = picture(t, **window)
            for i in range(len(pieces_of(strokes))):
                self.assertEqual(darker(rows, picture(t, **dict(window, a=window["a"] | 1 << i))), [])

    def test_4_a_set_lights_what_its_pieces_light(self):
        for strokes, t, window in self.cases:
            lit = ["."] * (window["w"] * window["h"])
            for i in range(len(pieces_of(strokes))):
                if window["a"] >> i & 1:
                    alone = signs(picture(t, **dict(window, a=1 << i)))
                    lit = ["#" if "#" in pair else "." for pair in zip(lit, alone)]
            self.assertEqual(signs(picture(t, **window)), "".join(lit))

    def test_4_moved_windows(self):
        for strokes, t, window in self.cases:
            rows = picture(t, **window)
            for i in range(min(window["w"], 10)):
                j = i % window["h"]
                moved = dict(window, x=window["x"] + i * window["s"], y=window["y"] + j * window["s"],
                             w=window["w"] - i, h=window["h"] - j)
                self.assertEqual(picture(t, **moved), [row[i:] for row in rows[j:]])


if __name__ == "__main__":
    unittest.main()
