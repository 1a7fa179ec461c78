"""Sets of pieces, and what they light."""

from tubepicture.pieces import distance_square

GREATEST_REACH = 4095
LEAST_PLACE = -65536
GREATEST_PLACE = 65535


def is_right_reach(reach):
    """Whether a reach is within its limits."""
    return 0 <= reach <= GREATEST_REACH


def is_right_spot(x, y):
    """Whether a spot that is asked for by itself is within its limits."""
    return LEAST_PLACE <= x <= GREATEST_PLACE and LEAST_PLACE <= y <= GREATEST_PLACE


def has_missing_piece(a, pieces):
    """Whether the set a has a piece that there isn't."""
    return a >> len(pieces) != 0


def pieces_of_set(a, pieces):
    """The pieces that are in the set a."""
    return [pieces[i] for i in range(len(pieces)) if (a >> i) % 2 == 1]


def is_lit(x, y, shining, reach):
    """Whether a spot is lit by the shining pieces."""
    limit = reach * reach
    for piece in shining:
        square = distance_square(piece, x, y)
        # Compared as fractions: a root would have to be rounded.
        if square[0] <= limit * square[1]:
            return True
    return False
