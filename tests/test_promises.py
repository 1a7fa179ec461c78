"""The promises, of many drawings, sets and windows."""

import random
import unittest

from tests.helper import LINE, ask, drawing, picture, pieces_of, plain_picture, random_strokes, zigzag
from tubepicture.pictures import bits


def random_window(source, pieces):
    return {"a": source.getrandbits(pieces), "x": source.randint(-12, 20), "y": source.randint(-12, 20),
            "w": source.randint(1, 20), "h": source.randint(1, 12), "s": source.randint(1, 3),
            "r": source.choice((0, 1, 1, 2, 3, 5, 9))}


def signs(rows):
    return "".join(rows)


def darker(fewer, more):
    """The spots that are lit in fewer but not in more."""
    return [i for i, sign in enumerate(signs(fewer)) if sign == "#" and signs(more)[i] != "#"]


class Promises(unittest.TestCase):
    @classmethod
    def setUpClass(cls):
        cls.cases = []
        for seed in range(60):
            source = random.Random(seed)
            strokes = random_strokes(seed)
            cls.cases.append((strokes, drawing(*strokes), random_window(source, len(pieces_of(strokes)))))

    def test_1_and_3_just_the_lit_spots(self):
        seen = ""
        for strokes, t, window in self.cases:
            rows = picture(t, **window)
            self.assertEqual(rows, plain_picture(strokes, **window), (strokes, window))
            seen += signs(rows)
        self.assertGreater(seen.count("#"), 500)
        self.assertGreater(seen.count("."), 500)

    def test_1_and_3_far_apart_points(self):
        for seed in range(12):
            source = random.Random(seed)
            strokes = random_strokes(seed, most=6, size=4096)
            window = {"a": 2 ** len(pieces_of(strokes)) - 1, "x": source.randint(-4096, 4095),
                      "y": source.randint(-4096, 4095), "w": 20, "h": 20, "s": 64, "r": source.randint(0, 1500)}
            self.assertEqual(picture(drawing(*strokes), **window), plain_picture(strokes, **window))

    def test_4_greater_reach(self):
        for strokes, t, window in self.cases:
            rows = picture(t, **window)
            for more in (1, 2, 50, 4000):
                self.assertEqual(darker(rows, picture(t, **dict(window, r=window["r"] + more))), [])

    def test_4_greater_set(self):
        for strokes, t, window in self.cases:
            rows = picture(t, **window)
            for i in range(len(pieces_of(strokes))):
                self.assertEqual(darker(rows, picture(t, **dict(window, a=window["a"] | 1 << i))), [])

    def test_4_a_set_lights_what_its_pieces_light(self):
        for strokes, t, window in self.cases:
            lit = ["."] * (window["w"] * window["h"])
            for i in range(len(pieces_of(strokes))):
                if window["a"] >> i & 1:
                    alone = signs(picture(t, **dict(window, a=1 << i)))
                    lit = ["#" if "#" in pair else "." for pair in zip(lit, alone)]
            self.assertEqual(signs(picture(t, **window)), "".join(lit))

    def test_4_moved_windows(self):
        for strokes, t, window in self.cases:
            rows = picture(t, **window)
            for i in range(min(window["w"], 10)):
                j = i % window["h"]
                moved = dict(window, x=window["x"] + i * window["s"], y=window["y"] + j * window["s"],
                             w=window["w"] - i, h=window["h"] - j)
                self.assertEqual(picture(t, **moved), [row[i:] for row in rows[j:]])


class NothingKept(unittest.TestCase):
    def test_what_is_handed_in_stays(self):
        crossed = drawing([(0, 0), (9, 9), (0, 9), (9, 0)])
        texts = [LINE, drawing(zigzag(64)), [], [10], LINE[:-1], [65] * 65537, crossed]
        for t in texts:
            for a, w in ((1, 8), (1, 0), (2 ** 64 - 1, 8)):
                handed = list(t)
                bits(a, 0, 0, w, 3, 1, 2, handed)
                self.assertEqual(handed, t)

    def test_what_is_given_back_is_the_callers(self):
        first = ask(w=20, h=4)
        second = ask(w=20, h=4)
        first.append(9)
        first[0] = 77
        self.assertEqual(second, ask(w=20, h=4))
        refused = ask(w=0)
        refused.append(1)
        self.assertEqual(ask(w=0), [-1])

    def test_a_second_call_answers_as_the_first(self):
        calls = []
        for seed in range(10):
            strokes = random_strokes(seed)
            calls.append((drawing(*strokes), random_window(random.Random(seed), len(pieces_of(strokes)))))
        calls += [([], {}), (LINE, {"w": 0}), (LINE, {"a": 2}), ([9] * 65537, {}), (LINE, {})]
        first = [ask(t, **window) for t, window in calls]
        self.assertEqual([ask(t, **window) for t, window in calls], first)
        self.assertEqual([ask(t, **window) for t, window in reversed(calls)], first[::-1])


if __name__ == "__main__":
    unittest.main()
