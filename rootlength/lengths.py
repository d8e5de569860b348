"""The calls: each answers a list, the answer and what else is told, or a refusal's number alone."""

from rootlength.drawing import read_drawing
from rootlength.pieces import squared_length
from rootlength.roots import difference, has_too_many, side_of_zero, whole_part

TOO_LONG = -2
NO_DRAWING = -6
OUT_OF_RANGE = -1
NO_SUCH_PIECE = -4
TOO_MANY_KINDS = -8

MOST_BYTES = 65536
POWERS_OF_TEN = (1, 10, 100, 1000, 10000, 100000, 1000000)


def has_other_pieces(a, pieces):
    """Whether the set a has a piece that isn't among the pieces."""
    return a >> len(pieces) != 0


def roots_of(a, pieces):
    """For each piece of the set a the n whose root is its length."""
    return [squared_length(piece) for i, piece in enumerate(pieces) if (a >> i) & 1 == 1]


def length(a, k, t):
    """[0, the greatest whole number that's at most 10^k times the length of t's pieces a], or a refusal."""
    if len(t) > MOST_BYTES:
        return [TOO_LONG]
    pieces = read_drawing(t)
    if pieces is None:
        return [NO_DRAWING]
    if k >= len(POWERS_OF_TEN):
        return [OUT_OF_RANGE]
    if has_other_pieces(a, pieces):
        return [NO_SUCH_PIECE]
    kinds = difference(roots_of(a, pieces), [])
    if has_too_many(kinds):
        return [TOO_MANY_KINDS]
    return [0, whole_part(kinds, POWERS_OF_TEN[k])]


def compare(a, b, t):
    """[0] if t's pieces a are as long as its pieces b, [1] if they are shorter, [2] if longer, or a refusal."""
    if len(t) > MOST_BYTES:
        return [TOO_LONG]
    pieces = read_drawing(t)
    if pieces is None:
        return [NO_DRAWING]
    if has_other_pieces(a, pieces) or has_other_pieces(b, pieces):
        return [NO_SUCH_PIECE]
    kinds = difference(roots_of(a, pieces), roots_of(b, pieces))
    if has_too_many(kinds):
        return [TOO_MANY_KINDS]
    side = side_of_zero(kinds)
    if side == 0:
        return [0]
    return [1] if side < 0 else [2]
