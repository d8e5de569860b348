"""What holds over the calls together."""

import importlib
import sys
import unittest

from rootlength import lengths
from tests.helper import (DIRECTIONS, OTHER_KINDS, Numbers, beyond, compare, floor, kind, lay, length, order, sticks, text)


def mixed(numbers, kinds, most_pieces):
    """(t, the squared length of each piece) of a drawing with pieces of any of the kinds."""
    vectors = []
    for _ in range(1 + numbers.below(most_pieces)):
        x, y = DIRECTIONS[kinds[numbers.below(len(kinds))]]
        c = 1 + numbers.below(511 // max(x, y))
        vectors.append((c * x, c * y) if numbers.below(2) else (c * y, c * x))
    return lay(vectors), [dx * dx + dy * dy for dx, dy in vectors]


def any_set(numbers, squares):
    return (numbers.below(2**32) << 32 | numbers.below(2**32)) % 2 ** len(squares)


def of_set(a, squares):
    return [n for i, n in enumerate(squares) if a >> i & 1]


class LengthsAndSums(unittest.TestCase):
    def drawings(self, seed):
        """Drawings with at most ten kinds other than 1, and with more."""
        numbers = Numbers(seed)
        for kinds in (OTHER_KINDS[:10] + [1], OTHER_KINDS + [1], OTHER_KINDS[:3] + [1], [1], [2]):
            for _ in range(12):
                yield numbers, *mixed(numbers, kinds, 64)

    def test_length_and_floor(self):
        first_numbers = set()
        for numbers, t, squares in self.drawings(89):
            a = any_set(numbers, squares)
            for k in range(8):
                answer = length(a, k, t)
                self.assertEqual(answer, floor(k, of_set(a, squares)))
                first_numbers.add(answer[0])
        self.assertEqual(first_numbers, {0, -1, -8})

    def test_compare_and_order(self):
        first_numbers = set()
        for numbers, t, squares in self.drawings(97):
            for a, b in ((any_set(numbers, squares), any_set(numbers, squares)), (0, any_set(numbers, squares)), (1, 1)):
                answer = compare(a, b, t)
                self.assertEqual(answer, order(of_set(a, squares), of_set(b, squares)))
                first_numbers.add(answer[0])
        self.assertEqual(first_numbers, {0, 1, 2, -8})

    def test_beyond_and_order(self):
        # The set is longer than c / d just if d times its length, with the roots of d d n, is more than c.
        for numbers, t, squares in self.drawings(101):
            a = any_set(numbers, squares) % 2**10
            d = 1 + numbers.below(5)
            c = numbers.below(5791)
            answer = order([d * d * n for n in of_set(a, squares)], [c * c])
            self.assertEqual(beyond(a, c, d, t), answer if answer == [-8] else [1] if answer == [2] else [0])

    def test_beyond_and_sticks_go_with_length(self):
        for numbers, t, squares in self.drawings(103):
            a = any_set(numbers, squares)
            k = numbers.below(7)
            answer = length(a, k, t)
            d = 1 + numbers.below(3000)
            if answer == [-8]:
                self.assertEqual(beyond(a, 1, 1, t), [-8])
                self.assertEqual(sticks(a, d, t), [-8])
                continue
            m = answer[1]
            whole = all(kind(n)[1] == 1 for n in of_set(a, squares))
            self.assertEqual(beyond(a, m + 1, 10**k, t), [0])
            self.assertEqual(beyond(a, m, 10**k, t), [0] if whole else [1])
            needed = sticks(a, d, t)[1]
            self.assertEqual(beyond(a, needed * d, 1, t), [0])
            if needed > 0:
                self.assertEqual(beyond(a, (needed - 1) * d, 1, t), [1])
            self.assertEqual(needed, -(-(length(a, 0, t)[1] + (not whole)) // d))

    def test_longer_than_something_longer(self):
        numbers = Numbers(107)
        t, squares = mixed(numbers, OTHER_KINDS[:10] + [1], 20)
        sets = [any_set(numbers, squares) for _ in range(12)]
        for a in sets:
            for b in sets:
                if compare(a, b, t) == [2]:
                    for k in (0, 6):
                        self.assertGreaterEqual(length(a, k, t)[1], length(b, k, t)[1])
                        self.assertEqual(beyond(a, length(b, k, t)[1], 10**k, t), [1])
                    self.assertGreaterEqual(sticks(a, 7, t), sticks(b, 7, t))


class KindsAndSums(unittest.TestCase):
    def test_a_root_is_c_roots_of_its_kind(self):
        for n in list(range(1, 300)) + [2 * 64 * 64, 3 * 63 * 63, 8187 * 64 * 64]:
            s, c = kind(n)[1:]
            self.assertEqual(order([n], [s] * c), [0])
            self.assertEqual(order([n], [s] * (c - 1)), [2])
            if c < 64:
                self.assertEqual(order([n], [s] * (c + 1)), [1])

    def test_the_same_just_if_of_each_kind_they_have_as_much(self):
        numbers = Numbers(109)
        seen = set()
        for _ in range(600):
            u = [numbers.below(30) for _ in range(numbers.below(5))]
            v = [numbers.below(30) for _ in range(numbers.below(5))]
            if numbers.below(3) == 0:
                v = [s for n in u if n > 0 for s in [kind(n)[1]] * kind(n)[2]]
            times = {}
            for numbers_of, way in ((u, 1), (v, -1)):
                for n in numbers_of:
                    if n > 0:
                        s, c = kind(n)[1:]
                        times[s] = times.get(s, 0) + way * c
            same = not any(times.values())
            self.assertEqual(order(u, v) == [0], same)
            seen.add(same)
        self.assertEqual(seen, {True, False})


T = text([(0, 0), (2, 2), (5, 2)], [(0, 10), (1, 11), (2, 12)], [(100, 0), (0, 100)])
OTHER_T = lay([DIRECTIONS[s] for s in OTHER_KINDS])
NO_DRAWING = T[:-1]
U = [2, 3, 5, 0, 8]
V = [33538050, 1, 7]
CALLS = [
    ("length", (0b11111, 6, T), [0, 150078210]),
    ("length", (1, 6, NO_DRAWING), [-6]),
    ("length", (2**16 - 1, 0, OTHER_T), [-8]),
    ("length", (0b10000, 7, T), [-1]),
    ("compare", (0b00001, 0b01100, T), [0]),
    ("compare", (0b00001, 0b00010, T), [1]),
    ("compare", (0b10000, 0b00010, T), [2]),
    ("compare", (2**16 - 1, 1, OTHER_T), [-8]),
    ("beyond", (0b00001, 14, 5, T), [1]),
    ("beyond", (0b00010, 3, 1, T), [0]),
    ("beyond", (0b00010, 3, 0, T), [-1]),
    ("beyond", (0b100000, 3, 1, T), [-4]),
    ("sticks", (0b01111, 4, T), [0, 3]),
    ("sticks", (0b00010, 3, T), [0, 1]),
    ("sticks", (0, 3, [10] * 65600), [-2]),
    ("floor", (3, U), [0, 8210]),
    ("floor", (0, V), [0, 5794]),
    ("floor", (0, [1] * 65), [-2]),
    ("order", (U, V), [1]),
    ("order", (V, U), [2]),
    ("order", (U, U), [0]),
    ("order", (U, [33538051]), [-1]),
    ("kind", (72,), [0, 2, 6]),
    ("kind", (0,), [-5]),
    ("kind", (33538051,), [-1]),
]


class EachCallByItself(unittest.TestCase):
    """Whatever was called before, the same lists being handed in each time."""

    def check(self, turns, module=lengths):
        before = [list(thing) for thing in (T, OTHER_T, NO_DRAWING, U, V)]
        for i in turns:
            name, handed_in, asked = CALLS[i]
            self.assertEqual(getattr(module, name)(*handed_in), asked, (name, i))
        self.assertEqual([T, OTHER_T, NO_DRAWING, U, V], before)

    def test_every_call_is_tried(self):
        self.assertEqual({name for name, handed_in, asked in CALLS},
                         {"length", "compare", "beyond", "sticks", "floor", "order", "kind"})

    def test_in_order_and_backwards(self):
        count = len(CALLS)
        self.check(list(range(count)) + list(range(count)) + list(range(count - 1, -1, -1)))

    def test_each_behind_each(self):
        for i in range(len(CALLS)):
            for j in range(len(CALLS)):
                self.check([i, j])

    def test_any_turns(self):
        numbers = Numbers(113)
        self.check([numbers.below(len(CALLS)) for _ in range(500)])

    def test_each_as_the_very_first(self):
        kept = {name: module for name, module in sys.modules.items() if name.split(".")[0] == "rootlength"}
        try:
            for i in range(len(CALLS)):
                for name in kept:
                    sys.modules.pop(name, None)
                fresh = importlib.import_module("rootlength.lengths")
                self.assertIsNot(fresh, lengths)
                self.check([i], fresh)
        finally:
            sys.modules.update(kept)

    def test_answers_are_lists_of_their_own(self):
        for name, handed_in, asked in CALLS:
            call = getattr(lengths, name)
            first, second = call(*handed_in), call(*handed_in)
            self.assertIsNot(first, second)
            first.clear()
            self.assertEqual(second, asked)
            self.assertEqual(call(*handed_in), asked)


if __name__ == "__main__":
    unittest.main()
