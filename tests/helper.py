"""What the tests share: texts of drawings, calls that watch what they are handed, and slow exact reckoning."""

import contextlib
import io
from fractions import Fraction
from math import isqrt

from rootlength import lengths

# For each kind a direction (x, y) with x x + y y = the kind, the first ten and eleven being enough for -8.
DIRECTIONS = {
    2: (1, 1), 5: (2, 1), 10: (3, 1), 13: (3, 2), 17: (4, 1), 26: (5, 1), 29: (5, 2), 34: (5, 3), 41: (5, 4),
    37: (6, 1), 53: (7, 2), 58: (7, 3), 61: (6, 5), 65: (8, 1), 73: (8, 3), 74: (7, 5), 1: (1, 0),
}
OTHER_KINDS = [s for s in DIRECTIONS if s != 1]

# Sums of ten kinds, the ten of DIRECTIONS in order, within less than 2^-80 of a whole number.
NEAR_WHOLE = [
    # k, how often each kind's root, the whole number next to 10^k times the sum, whether the sum is above it
    (0, (1318, 510, 125, 340, 247, 207, 276, 344, 276, 268), 13589, False),
    (0, (2473, 1191, 667, 1028, 971, 557, 414, 478, 513, 406), 29591, False),
    (0, (1613, 634, 622, 607, 714, 473, 268, 246, 354, 370), 20605, True),
    (0, (800, 1340, 952, 372, 942, 346, 534, 847, 482, 260), 26610, True),
    (6, (1037, 473, 299, 206, 410, 338, 211, 226, 369, 151), 13361720991, False),
    (6, (1560, 1212, 712, 546, 445, 370, 357, 316, 210, 291), 19737704081, False),
    (6, (931, 970, 550, 445, 494, 296, 391, 203, 403, 250), 17765898125, True),
]

# Differences of ten kinds (those of DIRECTIONS in order) and kind 1 that are next to nothing.
NEAR_NOTHING = [
    # how often each kind's root, how often 1, how many binary places don't tell the two sums apart
    ((-375, -235, 80, 50, -65, 68, 30, -12, -32, 62), 280, 82),
    ((-496, -42, 18, -227, 146, 36, 54, 165, -100, -39), 396, 90),
    ((-70, -848, -347, 240, -140, 142, 108, -95, 205, 85), 223, 99),
    ((4712, -4178, 227, 726, -160, 1, -106, 377, 203, 77), -3398, 116),
    ((-1154, -3394, 398, 389, 27, -689, 8, 1684, -43, -412), 2881, 115),
]

GREATEST_NUMBER = 33538050

CELL = 512
CELLS_IN_A_ROW = 8


def refuse_change(self, *args, **kwargs):
    raise AssertionError("what was handed in is being changed")


class Unchanging(list):
    """A list that can be read like any other, and tells of the first try to change it."""


for method in ("append", "extend", "insert", "pop", "remove", "clear", "sort", "reverse",
               "__setitem__", "__delitem__", "__iadd__", "__imul__"):
    setattr(Unchanging, method, refuse_change)


def ask(call, *handed_in):
    """What the call answers, if it does so twice, silently, as plain whole numbers, and leaves the lists alone."""
    watched = [Unchanging(thing) if isinstance(thing, list) else thing for thing in handed_in]
    plain = [list(thing) if isinstance(thing, list) else thing for thing in handed_in]
    said = io.StringIO()
    with contextlib.redirect_stdout(said), contextlib.redirect_stderr(said):
        answer = call(*watched)
        told = list(answer)
        answer.append("spoilt")
        again = call(*plain)
    assert said.getvalue() == "", "something was printed"
    assert plain == list(handed_in), "what was handed in was changed"
    assert type(again) is list and all(type(number) is int for number in again), again
    assert told == again, (told, again)
    return again


def length(a, k, t):
    return ask(lengths.length, a, k, t)


def compare(a, b, t):
    return ask(lengths.compare, a, b, t)


def beyond(a, c, d, t):
    return ask(lengths.beyond, a, c, d, t)


def sticks(a, d, t):
    return ask(lengths.sticks, a, d, t)


def floor(k, u):
    return ask(lengths.floor, k, u)


def order(u, v):
    return ask(lengths.order, u, v)


def kind(n):
    return ask(lengths.kind, n)


def is_drawing(t):
    """Whether every call that is handed a text takes t as a drawing's text."""
    answers = (length(0, 0, t), compare(0, 0, t), beyond(0, 0, 1, t), sticks(0, 1, t))
    if answers == ([0, 0], [0], [0], [0, 0]):
        return True
    assert answers == ([-6], [-6], [-6], [-6]), answers
    return False


def as_bytes(letters):
    return list(letters.encode("latin-1"))


def text(*strokes, name="A"):
    """The text of the drawing with these strokes, each a list of points."""
    rows = ["sign " + name]
    for points in strokes:
        rows.append("stroke " + " ".join(f"{x},{y}" for x, y in points))
    return as_bytes("".join(row + "\n" for row in rows))


def lay(vectors):
    """The text of a drawing whose piece i goes as far as vectors[i], each at most 511 in x and in y, none touching."""
    assert len(vectors) <= CELLS_IN_A_ROW * CELLS_IN_A_ROW
    strokes = []
    for i, (dx, dy) in enumerate(vectors):
        assert 0 <= dx < CELL and 0 <= dy < CELL
        x = CELL * (i % CELLS_IN_A_ROW)
        y = CELL * (i // CELLS_IN_A_ROW)
        strokes.append([(x, y), (x + dx, y + dy)])
    return text(*strokes)


def pieces_for(s, times):
    """Vectors of pieces that are `times` roots of s long together, each one that lay can place."""
    x, y = DIRECTIONS[s]
    most = (CELL - 1) // max(x, y)
    vectors = []
    while times > 0:
        c = min(times, most)
        vectors.append((c * x, c * y))
        times -= c
    return vectors


def both_sides(kinds):
    """(t, a, b): the sets' difference has kinds[s] times the root of s, a the positive ones, b the negative ones."""
    vectors = []
    sets = [0, 0]
    for s, times in kinds.items():
        for vector in pieces_for(s, abs(times)):
            sets[times < 0] |= 1 << len(vectors)
            vectors.append(vector)
    return lay(vectors), sets[0], sets[1]


def numbers_for(s, times):
    """Numbers whose roots are `times` roots of s together, each one that a list may hold."""
    most = isqrt(GREATEST_NUMBER // s)
    found = []
    while times > 0:
        c = min(times, most)
        found.append(c * c * s)
        times -= c
    return found


def both_lists(kinds):
    """(u, v): the sums' difference has kinds[s] times the root of s, u the positive ones, v the negative ones."""
    lists = [[], []]
    for s, times in kinds.items():
        lists[times < 0] += numbers_for(s, abs(times))
    return lists[0], lists[1]


def kinds_of(plus, minus=()):
    """As the document tells: how much of each kind the roots of plus have more than those of minus."""
    kinds = {}
    for roots, way in ((plus, 1), (minus, -1)):
        for n in [n for n in roots if n > 0]:
            c = max(c for c in range(1, isqrt(n) + 1) if n % (c * c) == 0)
            kinds[n // (c * c)] = kinds.get(n // (c * c), 0) + way * c
    return {s: times for s, times in kinds.items() if times != 0}


def enclosed(kinds, places=1000):
    """Two fractions that the sum lies between."""
    low = high = Fraction(0)
    for s, times in kinds.items():
        root = isqrt(s << (2 * places))
        ends = [Fraction(times * root, 1 << places), Fraction(times * (root + (s != 1)), 1 << places)]
        low += min(ends)
        high += max(ends)
    return low, high


def refused_for_kinds(kinds):
    return len([s for s in kinds if s != 1]) > 10


def length_asked(roots, k):
    """What length must answer of pieces with these squared lengths, and floor of these numbers."""
    kinds = kinds_of(roots)
    if refused_for_kinds(kinds):
        return [-8]
    low, high = enclosed(kinds)
    assert low * 10**k // 1 == high * 10**k // 1
    return [0, low * 10**k // 1]


def compare_asked(plus, minus):
    """What compare must answer of two sets of pieces with these squared lengths, and order of these numbers."""
    kinds = kinds_of(plus, minus)
    if refused_for_kinds(kinds):
        return [-8]
    low, high = enclosed(kinds)
    assert not kinds or low > 0 or high < 0
    return [2] if low > 0 else [1] if high < 0 else [0]


def beyond_asked(roots, c, d):
    """What beyond must answer of pieces with these squared lengths."""
    kinds = kinds_of(roots)
    if refused_for_kinds(kinds):
        return [-8]
    low, high = enclosed(kinds)
    assert low == high or not low <= Fraction(c, d) <= high
    return [1] if low > Fraction(c, d) else [0]


def sticks_asked(roots, d):
    """What sticks must answer of pieces with these squared lengths."""
    kinds = kinds_of(roots)
    if refused_for_kinds(kinds):
        return [-8]
    low, high = enclosed(kinds)
    assert -(-low // d) == -(-high // d)
    return [0, -(-low // d)]


def fractions_near(kinds, limit=2**64):
    """Pairs (c, d) below the limit, each pair's fraction nearer to the sum than all simpler ones, by turns on its sides."""
    rest = enclosed(kinds)[0]
    before, now = (0, 1), (1, 0)
    found = []
    while True:
        whole = rest // 1
        before, now = now, (whole * now[0] + before[0], whole * now[1] + before[1])
        if max(now) >= limit:
            return found
        found.append(now)
        if rest == whole:
            return found
        rest = 1 / (rest - whole)


class Numbers:
    """Numbers that look drawn by lot and are the same each time."""

    def __init__(self, seed):
        self.state = seed

    def below(self, limit):
        self.state = (self.state * 6364136223846793005 + 1442695040888963407) % 2**64
        return (self.state >> 32) * limit >> 32
