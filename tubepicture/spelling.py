"""How the lines of a drawing's text are spelled, byte by byte."""

BLANK = 32
COMMA = 44
ZERO = 48
NINE = 57
LONGEST_NAME = 12
FEWEST_POINTS = 2
MOST_POINTS = 65
FARTHEST = 4095


def cut(row, mark):
    """Cut bytes at each mark: there is always one part more than there are marks."""
    parts = []
    part = []
    for byte in row:
        if byte == mark:
            parts.append(part)
            part = []
        else:
            part.append(byte)
    parts.append(part)
    return parts


def spelled(word):
    """The bytes of a word."""
    return [ord(letter) for letter in word]


def is_digit(byte):
    """Whether a byte is one of 0 to 9."""
    return ZERO <= byte <= NINE


def is_name_byte(byte):
    """Whether a byte is one of A to Z, a to z, 0 to 9."""
    return is_digit(byte) or ord("A") <= byte <= ord("Z") or ord("a") <= byte <= ord("z")


def is_sign_line(row):
    """Whether a line is `sign NAME`."""
    words = cut(row, BLANK)
    if len(words) != 2 or words[0] != spelled("sign"):
        return False
    name = words[1]
    return 1 <= len(name) <= LONGEST_NAME and all([is_name_byte(byte) for byte in name])


def read_number(digits):
    """The number that stands there, or None if none does; all above FARTHEST are read as FARTHEST + 1."""
    if len(digits) == 0 or (len(digits) > 1 and digits[0] == ZERO):
        return None
    number = 0
    for byte in digits:
        if not is_digit(byte):
            return None
        # Capped, as digits may be many thousands and no such number is ever told.
        number = min(number * 10 + byte - ZERO, FARTHEST + 1)
    return number


def read_point(word):
    """The pair that a word `X,Y` tells, or None if it is no such word."""
    parts = cut(word, COMMA)
    if len(parts) != 2:
        return None
    x = read_number(parts[0])
    y = read_number(parts[1])
    if x is None or y is None:
        return None
    return (x, y)


def read_points(row):
    """The points of a line `stroke X,Y X,Y ..`, or None if it is no such line."""
    words = cut(row, BLANK)
    if words[0] != spelled("stroke"):
        return None
    if not FEWEST_POINTS <= len(words) - 1 <= MOST_POINTS:
        return None
    points = []
    for word in words[1:]:
        point = read_point(word)
        if point is None:
            return None
        points.append(point)
    return points
