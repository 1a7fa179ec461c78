"""The calls."""

from tubepicture.drawings import judge
from tubepicture.glow import has_missing_piece, pieces_of_set
from tubepicture.windows import Window, is_right, picture_bytes

MOST_BYTES = 65536
WRONG_PLACE = -1
TEXT_TOO_LONG = -2
NO_SUCH_PIECE = -4
NO_DRAWING = -6


def bits(a, x, y, w, h, s, r, t):
    """How many bytes the window's picture of the set has, then these; or a refusal alone."""
    if len(t) > MOST_BYTES:
        return [TEXT_TOO_LONG]
    judged = judge(t)
    if judged.kind != 0:
        return [NO_DRAWING]
    window = Window(x, y, w, h, s, r)
    if not is_right(window):
        return [WRONG_PLACE]
    if has_missing_piece(a, judged.pieces):
        return [NO_SUCH_PIECE]
    picture = picture_bytes(window, pieces_of_set(a, judged.pieces))
    return [len(picture)] + picture
