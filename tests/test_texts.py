"""What a drawing's text is, and how a wrong one is judged: kinds 1 to 6, line and which."""

import random
import unittest

from tests.helper import ask, drawing, plain_judge, short_strokes, stroke, text, zigzag
from tubepicture.drawings import judge

STAR = [(10 + dx, 10 + dy) for dx, dy in
        [(5, 0), (5, 5), (0, 5), (-5, 5), (-5, 0), (-5, -5), (0, -5), (5, -5), (5, 2), (2, 5)]]


def rays(count, center=(10, 10)):
    return [[center, STAR[i]] for i in range(count)]


class TextCase(unittest.TestCase):
    def right(self, t):
        judged = judge(list(t))
        self.assertEqual((judged.kind, judged.line, judged.which), (0, 0, 0))
        self.assertIsNone(plain_judge(t))
        self.assertEqual(len(ask(t)), 2)

    def wrong(self, t, kind, line, which=0):
        judged = judge(list(t))
        self.assertEqual((judged.kind, judged.line, judged.which), (kind, line, which))
        self.assertEqual(judged.pieces, [])
        self.assertEqual(plain_judge(t), (kind, line, which))
        self.assertEqual(ask(t), [-6])


class RightTexts(TextCase):
    def test_pieces_are_numbered_stroke_by_stroke(self):
        judged = judge(drawing([(1, 2), (3, 4), (5, 0)], [(9, 9), (8, 7)]))
        told = [(piece.ax, piece.ay, piece.bx, piece.by) for piece in judged.pieces]
        self.assertEqual(told, [(1, 2, 3, 4), (3, 4, 5, 0), (9, 9, 8, 7)])

    def test_names(self):
        for name in ("A", "Z", "a", "z", "0", "9", "Aa0Zz9Mm5Nn4", "sign", "stroke", "000000000000"):
            with self.subTest(name=name):
                self.right(text(f"sign {name}", "stroke 0,0 1,1"))

    def test_points_of_a_stroke(self):
        self.right(drawing(zigzag(1)))
        self.right(drawing(zigzag(64)))

    def test_64_pieces(self):
        self.right(drawing(*short_strokes(64)))
        self.right(drawing(zigzag(60), *[[(0, 100 + i), (9, 100 + i)] for i in range(4)]))

    def test_coordinates_at_their_limits(self):
        self.right(drawing([(0, 0), (4095, 4095), (4095, 0)]))

    def test_a_point_may_come_again_later(self):
        self.right(drawing([(0, 0), (5, 0), (5, 5), (0, 0)]))


class Spelling(TextCase):
    def test_no_bytes(self):
        self.wrong([], 1, 0)

    def test_line_0_alone(self):
        self.wrong(text("sign A"), 1, 1)
        self.wrong(text("sign A")[:-1], 1, 0)

    def test_missing_last_byte_10(self):
        self.wrong(drawing([(0, 0), (1, 1)])[:-1], 1, 1)
        self.wrong(drawing([(0, 0), (1, 1)], [(5, 5), (6, 6)])[:-1], 1, 2)
        self.wrong(drawing([(0, 0), (1, 1)]) + [32], 1, 2)
        self.wrong(text("sign A") + list(b"stroke 5000,0 5000,0"), 1, 1)

    def test_empty_lines(self):
        self.wrong([10], 1, 0)
        self.wrong([10, 10, 10], 1, 0)
        self.wrong([10] + drawing([(0, 0), (1, 1)]), 1, 0)
        self.wrong(text("sign A", "", "stroke 0,0 1,1"), 1, 1)
        self.wrong(drawing([(0, 0), (1, 1)]) + [10], 1, 2)

    def test_sign_lines(self):
        for line in ("sign", "sign ", " sign A", "sign  A", "sign A ", "sign A B", "Sign A", "sig A", "signA",
                     "signs A", "A sign", "sign ABCDEFGHIJKLM", "sign A_B", "sign A-", "sign @", "sign [", "sign `",
                     "sign {", "sign /", "sign :", "sign A\t", "sign A\r", "sign\tA", "sign \u00e4",
                     "stroke 0,0 1,1"):
            with self.subTest(line=line):
                self.wrong(text(line, "stroke 0,0 1,1"), 1, 0)

    def test_stroke_lines(self):
        for line in ("stroke", "stroke ", "stroke 0,0", " stroke 0,0 1,1", "stroke  0,0 1,1", "stroke 0,0  1,1",
                     "stroke 0,0 1,1 ", "Stroke 0,0 1,1", "strok 0,0 1,1", "strokes 0,0 1,1", "stroke0,0 1,1",
                     "0,0 1,1", "sign B", "stroke 0,0 1,1\r", "stroke 0,0\t1,1", "stroke stroke 0,0 1,1",
                     "stroke 0,0 1,1 stroke"):
            with self.subTest(line=line):
                self.wrong(text("sign A", line), 1, 1)
                self.wrong(text("sign A", "stroke 7,7 8,8", line, "stroke 5,5 5,5"), 1, 2)

    def test_points(self):
        for word in ("", ",", "1,", ",1", "1", "1,2,3", "1,,2", ",1,2", "1,2,", "01,2", "1,02", "00,2", "1,00",
                     "+1,2", "1,-2", "-0,2", "1.0,2", "a,2", "1,b", "1;2", "1/,2", ":,2", "1 ,2", "1, 2", "0x1,2",
                     "1_0,2", "\u0661,2", "1e1,2", "000000,5"):
            with self.subTest(word=word):
                self.wrong(text("sign A", f"stroke {word} 9,9"), 1, 1)
                self.wrong(text("sign A", f"stroke 9,9 {word}"), 1, 1)
                self.wrong(text("sign A", f"stroke 9,9 {word} 8,9"), 1, 1)

    def test_how_many_points(self):
        self.wrong(drawing(zigzag(0)), 1, 1)
        self.wrong(drawing(zigzag(65)), 1, 1)

    def test_bytes_that_are_no_letters(self):
        self.wrong([0], 1, 0)
        self.wrong([255] * 100, 1, 0)
        self.wrong(list(range(256)), 1, 0)
        right = drawing([(10, 20), (30, 40)])
        for place in range(len(right)):
            for byte in (0, 9, 11, 13, 31, 127, 128, 176, 255):
                changed = list(right)
                changed[place] = byte
                self.wrong(changed, 1, int(place >= len("sign Test\n")))


class WrongStrokes(TextCase):
    def test_coordinates_too_far(self):
        self.wrong(drawing([(4096, 0), (0, 0)]), 2, 1, 0)
        self.wrong(drawing([(0, 0), (0, 4096)]), 2, 1, 1)
        self.wrong(drawing([(0, 0), (9, 9)], [(0, 5), (1, 6), (4095, 4095), (5, 10000), (4096, 1)]), 2, 2, 3)

    def test_very_long_digits(self):
        for digits in ("10000", "40950", "4294967296", "18446744073709551616", "9" * 5000, "1" + "0" * 60000):
            self.wrong(text("sign A", f"stroke 0,0 1,{digits}"), 2, 1, 1)
            self.wrong(text("sign A", f"stroke {digits},0 1,1"), 2, 1, 0)
        self.wrong(text("sign A", "stroke 0,0 1," + "0" * 60000), 1, 1)
        self.wrong(text("sign A", "stroke 0,0 1," + "9" * 60000 + "x"), 1, 1)

    def test_the_point_before_again(self):
        self.wrong(drawing([(3, 4), (3, 4)]), 3, 1, 1)
        self.wrong(drawing([(0, 0), (9, 0)], [(5, 5), (6, 6), (6, 7), (6, 7), (6, 7)]), 3, 2, 3)

    def test_too_many_pieces(self):
        self.wrong(drawing(*short_strokes(65)), 4, 65)
        self.wrong(drawing(zigzag(64), [(0, 100), (1, 100)]), 4, 2)
        self.wrong(drawing(zigzag(63), [(0, 100), (1, 100), (2, 100)]), 4, 2)
        self.right(drawing(zigzag(63), [(0, 100), (1, 100)]))

    def test_nine_pieces_at_a_point(self):
        self.right(drawing(*rays(8)))
        self.wrong(drawing(*rays(9)), 6, 9, 8)
        self.wrong(drawing(*rays(10)), 6, 9, 8)
        self.wrong(drawing(*[points[::-1] for points in rays(9)]), 6, 9, 8)
        self.wrong(drawing(*rays(7), [STAR[7], (10, 10), STAR[8]]), 6, 8, 8)
        self.wrong(drawing(*rays(7), [(90, 10), STAR[7], (10, 10), STAR[8], (90, 80)]), 6, 8, 9)

    def test_least_kind_of_a_line_is_told(self):
        self.wrong(text("sign A", "stroke 0,0 5000,0 5000,0 x"), 1, 1)
        self.wrong(text("sign A", "stroke 0,0 0,0 5000,0"), 2, 1, 2)
        full = [stroke(points) for points in short_strokes(64)]
        self.wrong(text("sign A", *full, "stroke 0,7 0,7"), 3, 65, 1)
        self.wrong(text("sign A", *full, "stroke 0,7 2,8"), 4, 65)
        self.wrong(drawing(*rays(8), [(10, 10), STAR[8], (20, 12), (11, 11)]), 5, 9, 10)

    def test_first_wrong_line_is_told(self):
        self.wrong(text("sign A", "stroke 1,1 9,9 1,9 9,1", "stroke x"), 5, 1, 2)
        self.wrong(text("sign A", "stroke 1,1 1,1", "nothing"), 3, 1, 1)
        self.wrong(text("Sign A", "stroke 1,1 1,1"), 1, 0)
        self.wrong(text("sign A", "stroke 1,1 2,2", "stroke 0,9 0,9") + [65], 3, 2, 1)


class ManyTexts(unittest.TestCase):
    def test_random_strokes_as_the_plain_judge(self):
        told = {}
        for seed in range(1500):
            source = random.Random(seed)
            size = source.choice((3, 5, 9, 40, 4300))
            strokes = [[(source.randrange(size), source.randrange(size)) for _ in range(source.randint(2, 4))]
                       for _ in range(source.randint(1, 4))]
            t = drawing(*strokes)
            if source.random() < 0.3:
                t[source.randrange(len(t))] = source.choice(b"0 ,\n9x")
            judged = judge(t)
            plain = plain_judge(t)
            told[plain and plain[0]] = True
            self.assertEqual((judged.kind, judged.line, judged.which), plain or (0, 0, 0), bytes(t))
            self.assertEqual(ask(t) == [-6], plain is not None, bytes(t))
        self.assertLessEqual({None, 1, 2, 3, 5}, set(told))


if __name__ == "__main__":
    unittest.main()
