"""Pieces: straight lines between two points, how they meet and how far spots are from them."""

FIRST_END = 0
SECOND_END = 1
BETWEEN = 2


class Piece:
    """The straight line from its first end (ax, ay) to its second end (bx, by)."""

    def __init__(self, first, second):
        self.ax = first[0]
        self.ay = first[1]
        self.bx = second[0]
        self.by = second[1]


def square_between(ax, ay, bx, by):
    """The square of the distance of two points."""
    return (bx - ax) * (bx - ax) + (by - ay) * (by - ay)


def length_square(piece):
    """The square of a piece's length."""
    return square_between(piece.ax, piece.ay, piece.bx, piece.by)


def along(piece, x, y):
    """How far along a piece a spot lies: 0 beside its first end, length_square beside its second."""
    return (piece.bx - piece.ax) * (x - piece.ax) + (piece.by - piece.ay) * (y - piece.ay)


def aside(piece, x, y):
    """How far aside of a piece's line a spot lies, the two sides with unlike signs: 0 if on it."""
    return (piece.bx - piece.ax) * (y - piece.ay) - (piece.by - piece.ay) * (x - piece.ax)


def nearest_point(piece, x, y):
    """Which of a piece's points is nearest to a spot: FIRST_END, SECOND_END or BETWEEN them."""
    way = along(piece, x, y)
    if way <= 0:
        return FIRST_END
    if way >= length_square(piece):
        return SECOND_END
    return BETWEEN


def distance_square(piece, x, y):
    """The square of a spot's distance from a piece as a fraction (above, below), not in lowest terms."""
    point = nearest_point(piece, x, y)
    if point == FIRST_END:
        return (square_between(piece.ax, piece.ay, x, y), 1)
    if point == SECOND_END:
        return (square_between(piece.bx, piece.by, x, y), 1)
    side = aside(piece, x, y)
    return (side * side, length_square(piece))


def ends_at(piece, x, y):
    """Whether a piece has an end at a point."""
    return (piece.ax == x and piece.ay == y) or (piece.bx == x and piece.by == y)


def share_an_end(one, other):
    """Whether two pieces end at one point."""
    return ends_at(one, other.ax, other.ay) or ends_at(one, other.bx, other.by)


def lie_over(one, other):
    """Whether two pieces of one straight line share more than a single point."""
    start = along(one, other.ax, other.ay)
    stop = along(one, other.bx, other.by)
    return max(0, min(start, stop)) < min(length_square(one), max(start, stop))


def meet_badly(one, other):
    """Whether two pieces share a point that is not an end of both."""
    first = aside(one, other.ax, other.ay)
    second = aside(one, other.bx, other.by)
    if first == 0 and second == 0:
        return lie_over(one, other)
    if share_an_end(one, other):
        # They are not of one straight line, so that end is all that they share.
        return False
    return first * second <= 0 and aside(other, one.ax, one.ay) * aside(other, one.bx, one.by) <= 0
