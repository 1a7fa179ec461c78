"""The calls."""

from tubepicture.drawings import judge
from tubepicture.glow import has_missing_piece, is_lit, is_right_reach, is_right_spot
from tubepicture.glow import nearest_number, numbers_of_set, pieces_of_set
from tubepicture.pieces import distance_square, nearest_point
from tubepicture.squares import lowest_terms
from tubepicture.windows import Window, count_lit, file_bytes, is_right, picture_bytes

MOST_BYTES = 65536
NOT_REFUSED = 0
WRONG_PLACE = -1
TEXT_TOO_LONG = -2
NO_SUCH_PIECE = -4
EMPTY_SET = -5
NO_DRAWING = -6


class Looked:
    """What a look at a call shows: the drawing's pieces, and NOT_REFUSED; or no pieces, and the first refusal."""

    def __init__(self, refusal, pieces):
        self.refusal = refusal
        self.pieces = pieces


def look(a, t, place_fits):
    """Look at a call's text, place and set, in the order in which what is wrong is refused."""
    if len(t) > MOST_BYTES:
        return Looked(TEXT_TOO_LONG, [])
    judged = judge(t)
    if judged.kind != 0:
        return Looked(NO_DRAWING, [])
    if not place_fits:
        return Looked(WRONG_PLACE, [])
    if has_missing_piece(a, judged.pieces):
        return Looked(NO_SUCH_PIECE, [])
    return Looked(NOT_REFUSED, judged.pieces)


def bits(a, x, y, w, h, s, r, t):
    """How many bytes the window's picture of the set has, then these; or a refusal alone."""
    window = Window(x, y, w, h, s, r)
    looked = look(a, t, is_right(window))
    if looked.refusal != NOT_REFUSED:
        return [looked.refusal]
    picture = picture_bytes(window, pieces_of_set(a, looked.pieces))
    return [len(picture)] + picture


def file(a, x, y, w, h, s, r, t):
    """How many bytes the window's picture of the set has as a file, then these; or a refusal alone."""
    window = Window(x, y, w, h, s, r)
    looked = look(a, t, is_right(window))
    if looked.refusal != NOT_REFUSED:
        return [looked.refusal]
    written = file_bytes(window, pieces_of_set(a, looked.pieces))
    return [len(written)] + written


def count(a, x, y, w, h, s, r, t):
    """0, then how many of the window's spots the set lights; or a refusal alone."""
    window = Window(x, y, w, h, s, r)
    looked = look(a, t, is_right(window))
    if looked.refusal != NOT_REFUSED:
        return [looked.refusal]
    return [0, count_lit(window, pieces_of_set(a, looked.pieces))]


def lit(a, x, y, r, t):
    """1 if the set lights the spot, else 0; or a refusal alone."""
    looked = look(a, t, is_right_spot(x, y) and is_right_reach(r))
    if looked.refusal != NOT_REFUSED:
        return [looked.refusal]
    if is_lit(x, y, pieces_of_set(a, looked.pieces), r):
        return [1]
    return [0]


def near(a, x, y, t):
    """The number of the set's piece nearest to the spot, its distance's square, which point; or a refusal alone."""
    looked = look(a, t, is_right_spot(x, y))
    if looked.refusal != NOT_REFUSED:
        return [looked.refusal]
    numbers = numbers_of_set(a, looked.pieces)
    if len(numbers) == 0:
        return [EMPTY_SET]
    number = nearest_number(numbers, looked.pieces, x, y)
    piece = looked.pieces[number]
    return [number] + lowest_terms(distance_square(piece, x, y)) + [nearest_point(piece, x, y)]
