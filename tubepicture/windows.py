"""Windows, their pictures, and these as files."""

from tubepicture.glow import is_lit, is_right_reach
from tubepicture.spelling import spelled

MOST_SPOTS = 64
WIDEST_STEP = 64
LEAST_CORNER = -4096
GREATEST_CORNER = 4095
BITS_OF_A_BYTE = 8


class Window:
    """Columns and rows of spots, the first at (x, y), step apart, and a reach."""

    def __init__(self, x, y, columns, rows, step, reach):
        self.x = x
        self.y = y
        self.columns = columns
        self.rows = rows
        self.step = step
        self.reach = reach


def is_right(window):
    """Whether each number of a window is within its limits."""
    size_fits = 1 <= window.columns <= MOST_SPOTS and 1 <= window.rows <= MOST_SPOTS
    x_fits = LEAST_CORNER <= window.x <= GREATEST_CORNER
    y_fits = LEAST_CORNER <= window.y <= GREATEST_CORNER
    step_fits = 1 <= window.step <= WIDEST_STEP
    return size_fits and x_fits and y_fits and step_fits and is_right_reach(window.reach)


def is_lit_at(window, shining, column, row):
    """Whether the spot in a column and a row is lit; none behind the last column is."""
    if column >= window.columns:
        return False
    x = window.x + window.step * column
    y = window.y + window.step * row
    return is_lit(x, y, shining, window.reach)


def picture_byte(window, shining, start, row):
    """The byte of a row whose first bit is that of the column start."""
    byte = 0
    for column in range(start, start + BITS_OF_A_BYTE):
        byte = byte * 2
        if is_lit_at(window, shining, column, row):
            byte = byte + 1
    return byte


def picture_bytes(window, shining):
    """A window's picture, row by row."""
    picture = []
    for row in range(window.rows):
        for start in range(0, window.columns, BITS_OF_A_BYTE):
            picture.append(picture_byte(window, shining, start, row))
    return picture


def file_head(window):
    """The bytes of a file before its picture."""
    columns = window.columns
    rows = window.rows
    return spelled(f"P4\n{columns} {rows}\n")


def file_bytes(window, shining):
    """A window's picture as a file."""
    return file_head(window) + picture_bytes(window, shining)


def count_lit(window, shining):
    """How many of a window's spots are lit."""
    total = 0
    for row in range(window.rows):
        for column in range(window.columns):
            if is_lit_at(window, shining, column, row):
                total = total + 1
    return total
