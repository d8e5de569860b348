"""What the tests share: texts of drawings, calls that watch what they are handed, and slow exact reckoning."""

import contextlib
import io
from fractions import Fraction
from math import isqrt

from rootlength import lengths

# For each kind a direction (x, y) with x x + y y = the kind, the first ten and eleven being enough for -8.
DIRECTIONS = {
    2: (1, 1), 5: (2, 1), 10: (3, 1), 13: (3, 2), 17: (4, 1), 26: (5, 1), 29: (5, 2), 34: (5, 3), 41: (5, 4),
    37: (6, 1), 53: (7, 2), 58: (7, 3), 61: (6, 5), 65: (8, 1), 73: (8, 3), 74: (7, 5), 1: (1, 0),
}
OTHER_KINDS = [s for s in DIRECTIONS if s != 1]

CELL = 512
CELLS_IN_A_ROW = 8


def refuse_change(self, *args, **kwargs):
    raise AssertionError("what was handed in is being changed")


class Unchanging(list):
    """A list that can be read like any other, and tells of the first try to change it."""


for method in ("append", "extend", "insert", "pop", "remove", "clear", "sort", "reverse",
               "__setitem__", "__delitem__", "__iadd__", "__imul__"):
    setattr(Unchanging, method, refuse_change)


def ask(call, first, second, t):
    """What the call answers, if it does so twice, silently, as plain whole numbers, and leaves t alone."""
    plain = list(t)
    said = io.StringIO()
    with contextlib.redirect_stdout(said), contextlib.redirect_stderr(said):
        answer = call(first, second, Unchanging(t))
        told = list(answer)
        answer.append("spoilt")
        again = call(first, second, plain)
    assert said.getvalue() == "", "something was printed"
    assert plain == list(t), "the text was changed"
    assert type(again) is list and all(type(number) is int for number in again), again
    assert told == again, (told, again)
    return again


def length(a, k, t):
    return ask(lengths.length, a, k, t)


def compare(a, b, t):
    return ask(lengths.compare, a, b, t)


def is_drawing(t):
    """Whether both calls take t as a drawing's text."""
    answers = (length(0, 0, t), compare(0, 0, t))
    if answers == ([0, 0], [0]):
        return True
    assert answers == ([-6], [-6]), answers
    return False


def as_bytes(letters):
    return list(letters.encode("latin-1"))


def text(*strokes, name="A"):
    """The text of the drawing with these strokes, each a list of points."""
    rows = ["sign " + name]
    for points in strokes:
        rows.append("stroke " + " ".join(f"{x},{y}" for x, y in points))
    return as_bytes("".join(row + "\n" for row in rows))


def lay(vectors):
    """The text of a drawing whose piece i goes as far as vectors[i], each at most 511 in x and in y, none touching."""
    assert len(vectors) <= CELLS_IN_A_ROW * CELLS_IN_A_ROW
    strokes = []
    for i, (dx, dy) in enumerate(vectors):
        assert 0 <= dx < CELL and 0 <= dy < CELL
        x = CELL * (i % CELLS_IN_A_ROW)
        y = CELL * (i // CELLS_IN_A_ROW)
        strokes.append([(x, y), (x + dx, y + dy)])
    return text(*strokes)


def pieces_for(s, times):
    """Vectors of pieces that are `times` roots of s long together, each one that lay can place."""
    x, y = DIRECTIONS[s]
    most = (CELL - 1) // max(x, y)
    vectors = []
    while times > 0:
        c = min(times, most)
        vectors.append((c * x, c * y))
        times -= c
    return vectors


def both_sides(kinds):
    """(t, a, b): the sets' difference has kinds[s] times the root of s, a the positive ones, b the negative ones."""
    vectors = []
    sets = [0, 0]
    for s, times in kinds.items():
        for vector in pieces_for(s, abs(times)):
            sets[times < 0] |= 1 << len(vectors)
            vectors.append(vector)
    return lay(vectors), sets[0], sets[1]


def kinds_of(plus, minus=()):
    """As the document tells: how much of each kind the roots of plus have more than those of minus."""
    kinds = {}
    for roots, way in ((plus, 1), (minus, -1)):
        for n in roots:
            c = max(c for c in range(1, isqrt(n) + 1) if n % (c * c) == 0)
            kinds[n // (c * c)] = kinds.get(n // (c * c), 0) + way * c
    return {s: times for s, times in kinds.items() if times != 0}


def enclosed(kinds, places=1000):
    """Two fractions that the sum lies between."""
    low = high = Fraction(0)
    for s, times in kinds.items():
        root = isqrt(s << (2 * places))
        ends = [Fraction(times * root, 1 << places), Fraction(times * (root + (s != 1)), 1 << places)]
        low += min(ends)
        high += max(ends)
    return low, high


def refused_for_kinds(kinds):
    return len([s for s in kinds if s != 1]) > 10


def length_asked(roots, k):
    """What length must answer of pieces with these squared lengths."""
    kinds = kinds_of(roots)
    if refused_for_kinds(kinds):
        return [-8]
    low, high = enclosed(kinds)
    assert low * 10**k // 1 == high * 10**k // 1
    return [0, low * 10**k // 1]


def compare_asked(plus, minus):
    """What compare must answer of two sets of pieces with these squared lengths."""
    kinds = kinds_of(plus, minus)
    if refused_for_kinds(kinds):
        return [-8]
    low, high = enclosed(kinds)
    assert not kinds or low > 0 or high < 0
    return [2] if low > 0 else [1] if high < 0 else [0]


class Numbers:
    """Numbers that look drawn by lot and are the same each time."""

    def __init__(self, seed):
        self.state = seed

    def below(self, limit):
        self.state = (self.state * 6364136223846793005 + 1442695040888963407) % 2**64
        return (self.state >> 32) * limit >> 32
