"""The promises, of many drawings, sets and windows."""

import random
import unittest

from tests.helper import (ALL_NUMBERS, CALLS, LINE, ask_of, drawing, picture, pieces_of, plain_picture, random_cases,
                          random_strokes, zigzag)
from tubepicture import pictures


class Untouchable(list):
    """A list that nobody may change, not for a while either."""

    def refuse(self, *told, **named):
        raise AssertionError("what is handed in was changed")

    append = clear = extend = insert = pop = remove = reverse = sort = refuse
    __setitem__ = __delitem__ = __iadd__ = __imul__ = refuse


def signs(rows):
    return "".join(rows)


def darker(fewer, more):
    """The spots that are lit in fewer but not in more."""
    return [i for i, sign in enumerate(signs(fewer)) if sign == "#" and signs(more)[i] != "#"]


class Promises(unittest.TestCase):
    @classmethod
    def setUpClass(cls):
        cls.cases = random_cases(60)

    def test_1_and_3_just_the_lit_spots(self):
        seen = ""
        for strokes, t, window in self.cases:
            rows = picture(t, **window)
            self.assertEqual(rows, plain_picture(strokes, **window), (strokes, window))
            seen += signs(rows)
        self.assertGreater(seen.count("#"), 500)
        self.assertGreater(seen.count("."), 500)

    def test_1_and_3_far_apart_points(self):
        for seed in range(12):
            source = random.Random(seed)
            strokes = random_strokes(seed, most=6, size=4096)
            window = {"a": 2 ** len(pieces_of(strokes)) - 1, "x": source.randint(-4096, 4095),
                      "y": source.randint(-4096, 4095), "w": 20, "h": 20, "s": 64, "r": source.randint(0, 1500)}
            self.assertEqual(picture(drawing(*strokes), **window), plain_picture(strokes, **window))

    def test_4_greater_reach(self):
        for strokes, t, window in self.cases:
            rows = picture(t, **window)
            for more in (1, 2, 50, 4000):
                self.assertEqual(darker(rows, picture(t, **dict(window, r=window["r"] + more))), [])

    def test_4_greater_set(self):
        for strokes, t, window in self.cases:
            rows = picture(t, **window)
            for i in range(len(pieces_of(strokes))):
                self.assertEqual(darker(rows, picture(t, **dict(window, a=window["a"] | 1 << i))), [])

    def test_4_a_set_lights_what_its_pieces_light(self):
        for strokes, t, window in self.cases:
            lit = ["."] * (window["w"] * window["h"])
            for i in range(len(pieces_of(strokes))):
                if window["a"] >> i & 1:
                    alone = signs(picture(t, **dict(window, a=1 << i)))
                    lit = ["#" if "#" in pair else "." for pair in zip(lit, alone)]
            self.assertEqual(signs(picture(t, **window)), "".join(lit))

    def test_4_moved_windows(self):
        for strokes, t, window in self.cases:
            rows = picture(t, **window)
            for i in range(min(window["w"], 10)):
                j = i % window["h"]
                moved = dict(window, x=window["x"] + i * window["s"], y=window["y"] + j * window["s"],
                             w=window["w"] - i, h=window["h"] - j)
                self.assertEqual(picture(t, **moved), [row[i:] for row in rows[j:]])


class NothingKept(unittest.TestCase):
    """What holds for every call."""

    @classmethod
    def setUpClass(cls):
        crossed = drawing([(0, 0), (9, 9), (0, 9), (9, 0)])
        cls.asked = [(t, window) for strokes, t, window in random_cases(10)]
        cls.asked += [(t, dict(ALL_NUMBERS, a=a, x=x, w=w))
                      for t in (LINE, drawing(zigzag(64)), [], [10], LINE[:-1], [65] * 65537, crossed)
                      for a, x, w in ((1, 0, 8), (1, 2 ** 31 - 1, 0), (2 ** 64 - 1, 0, 8), (0, 0, 8))]

    def test_what_is_handed_in_stays(self):
        for call, order in CALLS.items():
            for t, numbers in self.asked:
                handed = Untouchable(t)
                getattr(pictures, call)(*[numbers[name] for name in order], handed)
                self.assertEqual(list(handed), t)

    def test_what_is_given_back_is_the_callers(self):
        for call in CALLS:
            for t, numbers in self.asked:
                first = ask_of(call, t, **numbers)
                kept = list(first)
                first.append(9)
                first[0] = 77
                self.assertEqual(ask_of(call, t, **numbers), kept)

    def test_a_second_call_answers_as_the_first(self):
        calls = [(call, t, numbers) for t, numbers in self.asked for call in CALLS]
        first = [ask_of(call, t, **numbers) for call, t, numbers in calls]
        self.assertEqual([ask_of(call, t, **numbers) for call, t, numbers in calls], first)
        self.assertEqual([ask_of(call, t, **numbers) for call, t, numbers in reversed(calls)], first[::-1])

    def test_lists_of_whole_numbers_are_given_back(self):
        for call in CALLS:
            for t, numbers in self.asked:
                answer = ask_of(call, t, **numbers)
                self.assertIs(type(answer), list)
                self.assertEqual({type(number) for number in answer}, {int})


if __name__ == "__main__":
    unittest.main()
