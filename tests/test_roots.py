"""Sums of roots by themselves: kinds, roots of whole numbers, and the bounds that enclose a sum."""

import unittest
from fractions import Fraction
from math import isqrt
from unittest import mock

from rootlength import roots
from tests.helper import (OTHER_KINDS, Numbers, beyond, beyond_asked, compare, compare_asked, enclosed, kinds_of, lay,
                          length, length_asked, sticks, sticks_asked)

GREATEST = 33538050


class Kinds(unittest.TestCase):
    def test_kind_and_factor(self):
        edges = [GREATEST, GREATEST - 1, 5741**2, 5791**2, 5779**2, 2 * 4093**2, 2**24, 2 * 2**24, 3**15, 33538037]
        for n in list(range(1, 3000)) + edges:
            s, c = roots.kind_and_factor(n)
            self.assertEqual(n, c * c * s)
            self.assertEqual(kinds_of([n]), {s: c})

    def test_difference(self):
        self.assertEqual(roots.difference([], []), {})
        self.assertEqual(roots.difference([8], [2, 2]), {})
        self.assertEqual(roots.difference([0, 8, 0], [2, 2, 0]), {})
        self.assertEqual(roots.difference([0], []), {})
        self.assertEqual(roots.difference([8, 9, 5], [2, 5]), {2: 1, 1: 3})
        self.assertEqual(roots.difference([2], [8, 4, 45]), {2: -1, 1: -2, 5: -3})

    def test_scaled_less(self):
        self.assertEqual(roots.scaled_less({}, 7, 0), {})
        self.assertEqual(roots.scaled_less({}, 7, 3), {1: -3})
        self.assertEqual(roots.scaled_less({1: 2, 5: 3}, 4, 8), {5: 12})
        self.assertEqual(roots.scaled_less({1: 2, 5: 3}, 4, 7), {1: 1, 5: 12})
        kinds = {1: 2, 5: 3}
        roots.scaled_less(kinds, 4, 8)
        self.assertEqual(kinds, {1: 2, 5: 3})


class Bounds(unittest.TestCase):
    def test_whole_root(self):
        for n in range(1, 3000):
            self.assertEqual(roots.whole_root(n), isqrt(n))
        for places in (31, 32, 64, 1000, 20000):
            for n in (1 << places, (1 << places) - 1, 3 << places, ((1 << places) + 1) ** 2, ((1 << places) + 1) ** 2 - 1):
                self.assertEqual(roots.whole_root(n), isqrt(n))

    def test_enclosed(self):
        numbers = Numbers(23)
        for _ in range(300):
            kinds = {}
            for _ in range(numbers.below(6)):
                kinds[([1] + OTHER_KINDS)[numbers.below(11)]] = (1 + numbers.below(50)) * (1 - 2 * numbers.below(2))
            low, high = enclosed(kinds)
            width = sum(abs(times) for s, times in kinds.items() if s != 1)
            for places in (1, 2, 3, 8, 64):
                first, second = roots.enclose(kinds, places)
                self.assertLessEqual(Fraction(first, 2**places), low)
                self.assertLessEqual(high, Fraction(second, 2**places))
                self.assertLessEqual(second - first, width)


class AnyFirstPlaces(unittest.TestCase):
    """However wide the bounds are at first, they are narrowed until they tell."""

    def test_calls(self):
        numbers = Numbers(29)
        for first_places in (1, 2, 3, 4):
            with mock.patch.object(roots, "FIRST_PLACES", first_places):
                for _ in range(150):
                    vectors = [(1 + numbers.below(6), numbers.below(6)) for _ in range(1 + numbers.below(8))]
                    squares = [dx * dx + dy * dy for dx, dy in vectors]
                    part = numbers.below(len(vectors) + 1)
                    a, b = (1 << part) - 1, (1 << len(vectors)) - (1 << part)
                    self.assertEqual(compare(a, b, lay(vectors)), compare_asked(squares[:part], squares[part:]))
                    k = numbers.below(7)
                    self.assertEqual(length(a, k, lay(vectors)), length_asked(squares[:part], k))
                    c, d = numbers.below(50), 1 + numbers.below(5)
                    self.assertEqual(beyond(a, c, d, lay(vectors)), beyond_asked(squares[:part], c, d))
                    self.assertEqual(sticks(a, d, lay(vectors)), sticks_asked(squares[:part], d))


if __name__ == "__main__":
    unittest.main()
