"""A drawing's text, read into the drawing's pieces."""

from rootlength.pieces import meet_badly

LINE_END = 10
BLANK = 32
COMMA = 44
DIGIT_0 = 48

MOST_NAME = 12
MOST_DIGITS = 4
MOST_COORDINATE = 4095
MOST_POINTS = 65
MOST_PIECES = 64
MOST_DEGREE = 8


def cut(row, mark):
    """What stands between the marks of row, and ahead of the first and behind the last, in order."""
    stretches = []
    stretch = []
    for byte in row:
        if byte == mark:
            stretches.append(stretch)
            stretch = []
        else:
            stretch.append(byte)
    stretches.append(stretch)
    return stretches


def spells(word, letters):
    """Whether the bytes of word are those of the letters."""
    return word == [ord(letter) for letter in letters]


def is_digit(byte):
    """Whether byte is one of 0 to 9."""
    return ord("0") <= byte and byte <= ord("9")


def is_name_sign(byte):
    """Whether byte may stand in a name."""
    if ord("A") <= byte and byte <= ord("Z"):
        return True
    if ord("a") <= byte and byte <= ord("z"):
        return True
    return is_digit(byte)


def is_sign_line(line):
    """Whether line is a drawing's line 0."""
    words = cut(line, BLANK)
    if len(words) != 2 or not spells(words[0], "sign"):
        return False
    if len(words[1]) < 1 or len(words[1]) > MOST_NAME:
        return False
    return all([is_name_sign(byte) for byte in words[1]])


def read_coordinate(word):
    """The coordinate that word tells, or None if it tells none."""
    # Longer words are no number or too great a one: neither has to be worked out, however long it is.
    if len(word) < 1 or len(word) > MOST_DIGITS:
        return None
    if not all([is_digit(byte) for byte in word]):
        return None
    if len(word) > 1 and word[0] == DIGIT_0:
        return None
    number = 0
    for byte in word:
        number = number * 10 + byte - DIGIT_0
    return number if number <= MOST_COORDINATE else None


def read_point(word):
    """The point that word tells, or None if it tells none."""
    numbers = [read_coordinate(part) for part in cut(word, COMMA)]
    if len(numbers) != 2 or None in numbers:
        return None
    return (numbers[0], numbers[1])


def read_stroke(line):
    """The points of a stroke's line, or None if it is no such line."""
    words = cut(line, BLANK)
    if not spells(words[0], "stroke"):
        return None
    points = [read_point(word) for word in words[1:]]
    if len(points) < 2 or len(points) > MOST_POINTS or None in points:
        return None
    return points


def degree(point, pieces):
    """How many of the pieces end at the point."""
    return len([True for piece in pieces if point in piece])


def may_follow(piece, pieces):
    """Whether a drawing that has the pieces may have this piece behind them."""
    if piece[0] == piece[1] or len(pieces) >= MOST_PIECES:
        return False
    if any([meet_badly(piece, other) for other in pieces]):
        return False
    return degree(piece[0], pieces) < MOST_DEGREE and degree(piece[1], pieces) < MOST_DEGREE


def read_drawing(t):
    """The pieces of the drawing whose text t is, in order, or None if it is no drawing's."""
    lines = cut(t, LINE_END)
    # What stands behind the last line end would be a line without one.
    if len(lines.pop()) > 0:
        return None
    if len(lines) < 2 or not is_sign_line(lines[0]):
        return None
    pieces = []
    for line in lines[1:]:
        points = read_stroke(line)
        if points is None:
            return None
        for i in range(1, len(points)):
            piece = (points[i - 1], points[i])
            if not may_follow(piece, pieces):
                return None
            pieces.append(piece)
    return pieces
