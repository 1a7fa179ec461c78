"""Sets of pieces, what they light, and which of them is nearest."""

from tubepicture.pieces import distance_square
from tubepicture.squares import is_less

GREATEST_REACH = 4095
LEAST_PLACE = -65536
GREATEST_PLACE = 65535


def is_right_reach(reach):
    """Whether a reach is within its limits."""
    return 0 <= reach <= GREATEST_REACH


def is_right_spot(x, y):
    """Whether a spot that is asked for by itself is within its limits."""
    return LEAST_PLACE <= x <= GREATEST_PLACE and LEAST_PLACE <= y <= GREATEST_PLACE


def has_missing_piece(a, pieces):
    """Whether the set a has a piece that there isn't."""
    return a >> len(pieces) != 0


def numbers_of_set(a, pieces):
    """The numbers of the pieces that are in the set a."""
    return [i for i in range(len(pieces)) if (a >> i) % 2 == 1]


def pieces_of_set(a, pieces):
    """The pieces that are in the set a."""
    return [pieces[i] for i in numbers_of_set(a, pieces)]


def is_lit(x, y, shining, reach):
    """Whether a spot is lit by the shining pieces."""
    limit = (reach * reach, 1)
    for piece in shining:
        if not is_less(limit, distance_square(piece, x, y)):
            return True
    return False


def nearest_number(numbers, pieces, x, y):
    """The number of the piece that is nearest to a spot, of those of these numbers, which rise."""
    best = numbers[0]
    least = distance_square(pieces[best], x, y)
    for i in numbers[1:]:
        square = distance_square(pieces[i], x, y)
        # One that is only as near leaves the lesser number as it is.
        if is_less(square, least):
            best = i
            least = square
    return best
