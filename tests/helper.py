"""What the tests share: texts, plain answers to compare with, and a way to write pictures as rows of signs.

The answers here are found in another way than the program's: by points as fractions and by patterns.
"""

import functools
import random
import re
from fractions import Fraction

from tubepicture import pictures

ALL_NUMBERS = {"a": 1, "x": 0, "y": 0, "w": 8, "h": 1, "s": 1, "r": 1}
# The numbers of each call, in their order; behind them stands the text.
CALLS = {"bits": "axywhsr", "file": "axywhsr", "count": "axywhsr", "lit": "axyr", "near": "axy"}


def text(*lines):
    """The bytes of these lines, each with the byte 10 behind it."""
    return [byte for line in lines for byte in (line + "\n").encode()]


def stroke(points):
    return " ".join(["stroke"] + [f"{x},{y}" for x, y in points])


def drawing(*strokes):
    """The text of a drawing with these lists of points."""
    return text("sign Test", *[stroke(points) for points in strokes])


LINE = drawing([(0, 0), (10, 0)])


def zigzag(pieces, top=50):
    """Points of one stroke with so many pieces, no two of which meet badly."""
    return [(4 * i, top * (i % 2)) for i in range(pieces + 1)]


def short_strokes(count):
    """So many strokes of one piece each, apart from one another."""
    return [[(4 * i, 7), (4 * i + 2, 8)] for i in range(count)]


def ask_of(call, t=None, **numbers):
    """What a call answers of the text, with ordinary numbers where none are given."""
    told = dict(ALL_NUMBERS, **numbers)
    order = [told[name] for name in CALLS[call]]
    return getattr(pictures, call)(*order, list(LINE if t is None else t))


def ask(t=None, **numbers):
    """bits of the text."""
    return ask_of("bits", t, **numbers)


def rows_of(answer, w, h):
    """A picture as h texts of w signs, # for a lit spot; the bits behind the last column must be 0."""
    width = -(-w // 8)
    if len(answer) != 1 + answer[0] or answer[0] != width * h:
        raise AssertionError(f"{answer[0]} told, {len(answer) - 1} given, {width * h} asked")
    rows = []
    for j in range(h):
        row = answer[1 + j * width:1 + (j + 1) * width]
        signs = "".join(f"{byte:08b}" for byte in row)
        if "1" in signs[w:]:
            raise AssertionError(f"row {j} has bits behind its last column")
        rows.append(signs[:w].replace("0", ".").replace("1", "#"))
    return rows


def picture(t=None, **numbers):
    told = dict(ALL_NUMBERS, **numbers)
    return rows_of(ask(t, **numbers), told["w"], told["h"])


def pieces_of(strokes):
    return [pair for points in strokes for pair in zip(points, points[1:])]


def plain_square(piece, x, y):
    """The square of the distance, by way of the nearest point itself."""
    (ax, ay), (bx, by) = piece
    dx, dy = bx - ax, by - ay
    part = Fraction((x - ax) * dx + (y - ay) * dy, dx * dx + dy * dy)
    part = min(max(part, Fraction(0)), Fraction(1))
    return (ax + part * dx - x) ** 2 + (ay + part * dy - y) ** 2


def plain_picture(strokes, a, x, y, w, h, s, r):
    chosen = [piece for i, piece in enumerate(pieces_of(strokes)) if a & (1 << i)]
    return ["".join("#" if any(plain_square(piece, x + s * i, y + s * j) <= r * r for piece in chosen) else "."
                    for i in range(w)) for j in range(h)]


def solve(one, other):
    """The one point that two lines share, if they are not parallel, as fractions; else None."""
    (ax, ay), (bx, by) = one
    (cx, cy), (dx, dy) = other
    below = (bx - ax) * (dy - cy) - (by - ay) * (dx - cx)
    if below == 0:
        return None
    part = Fraction((cx - ax) * (dy - cy) - (cy - ay) * (dx - cx), below)
    return (ax + part * (bx - ax), ay + part * (by - ay))


def plain_meet_badly(one, other):
    """By the shared points themselves: where lines cross, or for parallel ones the ends and the points between."""
    point = solve(one, other)
    if point is not None:
        tried = [point]
    else:
        ends = sorted([*one, *other])
        halves = [(Fraction(p[0] + q[0], 2), Fraction(p[1] + q[1], 2)) for p, q in zip(ends, ends[1:])]
        tried = ends + halves
    return any(plain_square(one, *p) == 0 and plain_square(other, *p) == 0 and not (p in one and p in other)
               for p in tried)


POINT = "(?:0|[1-9][0-9]*),(?:0|[1-9][0-9]*)"


def plain_judge(t):
    """(kind, line, which), or None for a drawing's text."""
    lines = re.findall(r"[^\n]*\n|[^\n]+", bytes(t).decode("latin-1"))
    if not lines or not re.fullmatch(r"sign [A-Za-z0-9]{1,12}\n", lines[0]):
        return (1, 0, 0)
    if len(lines) == 1:
        return (1, 1, 0)
    before = []
    for n, line in enumerate(lines[1:], 1):
        if not re.fullmatch(f"stroke(?: {POINT}){{2,65}}\n", line):
            return (1, n, 0)
        fault = plain_stroke_fault(line, before)
        if fault is not None:
            return (fault[0], n, fault[1])
    return None


def plain_stroke_fault(line, before):
    words = [word.split(",") for word in line.split()[1:]]
    far = [i for i, word in enumerate(words) if any(len(part) > 4 or int(part) > 4095 for part in word)]
    if far:
        return (2, far[0])
    points = [(int(word[0]), int(word[1])) for word in words]
    same = [i for i in range(1, len(points)) if points[i] == points[i - 1]]
    if same:
        return (3, same[0])
    start = len(before)
    before.extend(zip(points, points[1:]))
    if len(before) > 64:
        return (4, 0)
    bad = [i for i in range(start, len(before)) if any(plain_meet_badly(one, before[i]) for one in before[:i])]
    if bad:
        return (5, bad[0])
    full = [i for i in range(start, len(before))
            if any(sum(end in one for one in before[:i + 1]) > 8 for end in before[i])]
    if full:
        return (6, full[0])
    return None


def random_strokes(seed, most=12, size=24):
    """Some strokes, small enough that their pieces are near to one another, that make a drawing."""
    source = random.Random(seed)
    strokes = []
    for _ in range(source.randint(most, 4 * most)):
        points = [(source.randrange(size), source.randrange(size)) for _ in range(source.choice((2, 2, 3, 4)))]
        if len(pieces_of(strokes + [points])) <= most and plain_judge(drawing(*strokes, points)) is None:
            strokes.append(points)
    return strokes


def random_window(source, pieces):
    """A set of so many pieces, and a window beside or over the strokes of random_strokes."""
    return {"a": source.getrandbits(pieces), "x": source.randint(-12, 20), "y": source.randint(-12, 20),
            "w": source.randint(1, 20), "h": source.randint(1, 12), "s": source.randint(1, 3),
            "r": source.choice((0, 1, 1, 2, 3, 5, 9))}


@functools.cache
def random_cases(count):
    """So many drawings, as (strokes, text, numbers of a window); kept, as they take long to find."""
    cases = []
    for seed in range(count):
        strokes = random_strokes(seed)
        window = random_window(random.Random(seed), len(pieces_of(strokes)))
        cases.append((strokes, drawing(*strokes), window))
    return tuple(cases)
