"""Drawings: a text is judged line by line, and told are its pieces or what is wrong first."""

from tubepicture.pieces import Piece, ends_at, meet_badly
from tubepicture.spelling import FARTHEST, cut, is_sign_line, read_points

LINE_FEED = 10
MOST_PIECES = 64
MOST_AT_A_POINT = 8


class Judged:
    """What a text is: its pieces, and kind 0; or no pieces, and the kind, line and which of its first fault."""

    def __init__(self, pieces, kind, line, which):
        self.pieces = pieces
        self.kind = kind
        self.line = line
        self.which = which


def pieces_between(points):
    """The pieces from each point to the next."""
    return [Piece(points[i - 1], points[i]) for i in range(1, len(points))]


def points_fault(points):
    """(kind, which) of the first fault of a stroke's points by themselves, kind 0 if there is none."""
    for i in range(len(points)):
        if points[i][0] > FARTHEST or points[i][1] > FARTHEST:
            return (2, i)
    for i in range(1, len(points)):
        if points[i] == points[i - 1]:
            return (3, i)
    return (0, 0)


def meets_one_before_badly(pieces, i):
    """Whether piece i meets badly with one of lesser number."""
    return any([meet_badly(piece, pieces[i]) for piece in pieces[:i]])


def count_ends(pieces, x, y):
    """How many of the pieces end at a point."""
    return len([piece for piece in pieces if ends_at(piece, x, y)])


def is_one_too_many(pieces, i):
    """Whether piece i is the ninth, or a later one, that ends at one of its two points."""
    piece = pieces[i]
    upto = pieces[:i + 1]
    at_first = count_ends(upto, piece.ax, piece.ay)
    at_second = count_ends(upto, piece.bx, piece.by)
    return at_first > MOST_AT_A_POINT or at_second > MOST_AT_A_POINT


def pieces_fault(pieces, start):
    """(kind, which) of the first fault of the pieces from start on, kind 0 if there is none."""
    if len(pieces) > MOST_PIECES:
        return (4, 0)
    for i in range(start, len(pieces)):
        if meets_one_before_badly(pieces, i):
            return (5, i)
    for i in range(start, len(pieces)):
        if is_one_too_many(pieces, i):
            return (6, i)
    return (0, 0)


def judge_strokes(rows):
    """Judge the lines from line 1 on; line 0 is right, and each has its byte 10."""
    pieces = []
    for line in range(1, len(rows)):
        points = read_points(rows[line])
        if points is None:
            return Judged([], 1, line, 0)
        fault = points_fault(points)
        if fault[0] == 0:
            start = len(pieces)
            pieces = pieces + pieces_between(points)
            fault = pieces_fault(pieces, start)
        if fault[0] != 0:
            return Judged([], fault[0], line, fault[1])
    return Judged(pieces, 0, 0, 0)


def judge(t):
    """Judge a text of any bytes."""
    rows = cut(t, LINE_FEED)
    # The last of these is what stands behind the last byte 10: a line only if it has bytes.
    ended = len(rows) - 1
    if ended == 0 or not is_sign_line(rows[0]):
        return Judged([], 1, 0, 0)
    judged = judge_strokes(rows[:ended])
    if judged.kind == 0 and (ended == 1 or len(rows[ended]) > 0):
        return Judged([], 1, ended, 0)
    return judged
