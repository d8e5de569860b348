"""Pieces of a drawing: each a pair of ends, each end a pair (x, y) of whole numbers."""


def squared_length(piece):
    """The n such that the piece is as long as the root of n."""
    dx = piece[1][0] - piece[0][0]
    dy = piece[1][1] - piece[0][1]
    return dx * dx + dy * dy


def turn(p, q, r):
    """Above 0, 0 or below 0: r is on one side of, on, or on the other side of the straight line through p and q."""
    return (q[0] - p[0]) * (r[1] - p[1]) - (q[1] - p[1]) * (r[0] - p[0])


def lies_within(point, piece):
    """Whether the point is one of the piece's and none of its ends."""
    if turn(piece[0], piece[1], point) != 0:
        return False
    # From a point between the ends they are seen in opposite directions, from any other of that line in the same.
    over_x = (piece[0][0] - point[0]) * (piece[1][0] - point[0])
    over_y = (piece[0][1] - point[1]) * (piece[1][1] - point[1])
    return over_x + over_y < 0


def parts_ends(piece, other):
    """Whether the straight line through piece has other's ends on its two sides, neither on itself."""
    return turn(piece[0], piece[1], other[0]) * turn(piece[0], piece[1], other[1]) < 0


def meet_badly(first, second):
    """Whether the two pieces share a point that isn't an end of both."""
    # A shared point that is an end of just one lies within the other. One that is an end of neither: the two
    # cross there, or they lie on one line, and then an end of one lies within the other or they have the same ends.
    if first[0] in second and first[1] in second:
        return True
    if parts_ends(first, second) and parts_ends(second, first):
        return True
    if lies_within(first[0], second) or lies_within(first[1], second):
        return True
    return lies_within(second[0], first) or lies_within(second[1], first)
