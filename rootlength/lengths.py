"""The calls: each answers a list, the answer and what else is told, or a refusal's number alone."""

from rootlength.drawing import read_drawing
from rootlength.pieces import squared_length
from rootlength.roots import difference, has_too_many, kind_and_factor
from rootlength.roots import scaled_less, side_of_zero, whole_above, whole_part

NOT_REFUSED = 0
TOO_LONG = -2
NO_DRAWING = -6
OUT_OF_RANGE = -1
NO_SUCH_PIECE = -4
TOO_MANY_KINDS = -8
NONE_THERE = -5

MOST_BYTES = 65536
MOST_NUMBERS = 64
GREATEST_NUMBER = 33538050
POWERS_OF_TEN = (1, 10, 100, 1000, 10000, 100000, 1000000)


def has_other_pieces(a, pieces):
    """Whether the set a has a piece that isn't among the pieces."""
    return a >> len(pieces) != 0


def has_too_great(numbers):
    """Whether one of the numbers is greater than any whose root may be in a sum."""
    return any([n > GREATEST_NUMBER for n in numbers])


def look_at(t, in_range, sets):
    """(NOT_REFUSED, the pieces of t's drawing), or (the number of the first refusal that holds, no pieces)."""
    if len(t) > MOST_BYTES:
        return (TOO_LONG, [])
    pieces = read_drawing(t)
    if pieces is None:
        return (NO_DRAWING, [])
    if not in_range:
        return (OUT_OF_RANGE, [])
    if any([has_other_pieces(a, pieces) for a in sets]):
        return (NO_SUCH_PIECE, [])
    return (NOT_REFUSED, pieces)


def look_at_lists(in_range, lists):
    """NOT_REFUSED, or the number of the first refusal that holds."""
    if any([len(numbers) > MOST_NUMBERS for numbers in lists]):
        return TOO_LONG
    if not in_range or any([has_too_great(numbers) for numbers in lists]):
        return OUT_OF_RANGE
    return NOT_REFUSED


def roots_of(a, pieces):
    """For each piece of the set a the n whose root is its length."""
    return [squared_length(piece) for i, piece in enumerate(pieces) if (a >> i) & 1 == 1]


def tell_whole_part(kinds, k):
    """[0, the greatest whole number that's at most 10^k times the sum], or a refusal."""
    if has_too_many(kinds):
        return [TOO_MANY_KINDS]
    return [0, whole_part(kinds, POWERS_OF_TEN[k])]


def tell_order(kinds):
    """[0] if the difference is 0, [1] if it's below 0, [2] if it's above, or a refusal."""
    if has_too_many(kinds):
        return [TOO_MANY_KINDS]
    side = side_of_zero(kinds)
    if side == 0:
        return [0]
    return [1] if side < 0 else [2]


def length(a, k, t):
    """[0, the greatest whole number that's at most 10^k times the length of t's pieces a], or a refusal."""
    found = look_at(t, k < len(POWERS_OF_TEN), [a])
    if found[0] != NOT_REFUSED:
        return [found[0]]
    return tell_whole_part(difference(roots_of(a, found[1]), []), k)


def compare(a, b, t):
    """[0] if t's pieces a are as long as its pieces b, [1] if they are shorter, [2] if longer, or a refusal."""
    found = look_at(t, True, [a, b])
    if found[0] != NOT_REFUSED:
        return [found[0]]
    return tell_order(difference(roots_of(a, found[1]), roots_of(b, found[1])))


def beyond(a, c, d, t):
    """[1] if t's pieces a are longer than c / d, [0] if they aren't, or a refusal."""
    found = look_at(t, d > 0, [a])
    if found[0] != NOT_REFUSED:
        return [found[0]]
    kinds = scaled_less(difference(roots_of(a, found[1]), []), d, c)
    if has_too_many(kinds):
        return [TOO_MANY_KINDS]
    return [1] if side_of_zero(kinds) > 0 else [0]


def sticks(a, d, t):
    """[0, the least whole number m such that m d is at least the length of t's pieces a], or a refusal."""
    found = look_at(t, d > 0, [a])
    if found[0] != NOT_REFUSED:
        return [found[0]]
    kinds = difference(roots_of(a, found[1]), [])
    if has_too_many(kinds):
        return [TOO_MANY_KINDS]
    # m d is whole, so it's at least the length just if it's at least the first whole number that is.
    return [0, (whole_above(kinds) + d - 1) // d]


def floor(k, u):
    """[0, the greatest whole number that's at most 10^k times the sum of u's roots], or a refusal."""
    refused = look_at_lists(k < len(POWERS_OF_TEN), [u])
    if refused != NOT_REFUSED:
        return [refused]
    return tell_whole_part(difference(u, []), k)


def order(u, v):
    """[0] if the sum of u's roots is that of v's, [1] if it's less, [2] if it's more, or a refusal."""
    refused = look_at_lists(True, [u, v])
    if refused != NOT_REFUSED:
        return [refused]
    return tell_order(difference(u, v))


def kind(n):
    """[0, n's kind s, the c above 0 with n = c c s], or a refusal."""
    if n > GREATEST_NUMBER:
        return [OUT_OF_RANGE]
    if n == 0:
        return [NONE_THERE]
    found = kind_and_factor(n)
    return [0, found[0], found[1]]
