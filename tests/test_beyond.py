"""beyond: whether a set is longer than c / d."""

import unittest
from fractions import Fraction

from tests.helper import (DIRECTIONS, NEAR_WHOLE, OTHER_KINDS, Numbers, beyond, beyond_asked, both_sides, compare, enclosed,
                          fractions_near, kinds_of, lay, length, text)

GREATEST = 2**64 - 1


class OrdinaryFractions(unittest.TestCase):
    def test_longer_and_not(self):
        t = text([(0, 0), (1, 1), (4, 5)])
        for c, d, asked in ((1, 1, 1), (2, 1, 0), (7, 5, 1), (3, 2, 0), (141421, 100000, 1), (141422, 100000, 0), (99, 70, 0)):
            self.assertEqual(beyond(0b01, c, d, t), [asked], (c, d))
        for c, d, asked in ((6, 1, 1), (7, 1, 0), (25, 4, 1), (32, 5, 1), (641, 100, 1), (642, 100, 0)):
            self.assertEqual(beyond(0b11, c, d, t), [asked], (c, d))

    def test_pieces_of_the_set_alone(self):
        t = text([(0, 0), (7, 0), (7, 9)], [(100, 100), (100, 111)])
        for a, whole in ((0b001, 7), (0b010, 9), (0b100, 11), (0b101, 18), (0b111, 27)):
            self.assertEqual(beyond(a, whole - 1, 1, t), [1])
            self.assertEqual(beyond(a, whole, 1, t), [0])
            self.assertEqual(beyond(a, whole + 1, 1, t), [0])

    def test_fraction_need_not_be_in_lowest_terms(self):
        t = text([(0, 0), (2, 1)])
        for times in (1, 2, 3, 10, 10**18):
            self.assertEqual(beyond(1, 2 * times, times, t), [1])
            self.assertEqual(beyond(1, 9 * times, 4 * times, t), [0])

    def test_d_1(self):
        t = text([(0, 0), (1, 1), (2, 0)])
        self.assertEqual([beyond(3, c, 1, t) for c in range(5)], [[1], [1], [1], [0], [0]])
        self.assertEqual(beyond(3, GREATEST, 1, t), [0])

    def test_greatest_c_and_d(self):
        t = text([(0, 4095), (4095, 0)])
        self.assertEqual(beyond(1, GREATEST, GREATEST, t), [1])
        self.assertEqual(beyond(1, 1, GREATEST, t), [1])
        self.assertEqual(beyond(1, GREATEST, 1, t), [0])


class Nothing(unittest.TestCase):
    def test_c_0(self):
        t = text([(0, 0), (1, 0), (2, 1)])
        for d in (1, 2, 10**6, GREATEST):
            self.assertEqual(beyond(0b00, 0, d, t), [0])
            self.assertEqual(beyond(0b01, 0, d, t), [1])
            self.assertEqual(beyond(0b10, 0, d, t), [1])
            self.assertEqual(beyond(0b11, 0, d, t), [1])

    def test_set_of_no_pieces(self):
        t = text([(0, 0), (1, 1)])
        for c, d in ((1, 1), (1, GREATEST), (GREATEST, 1), (GREATEST, GREATEST)):
            self.assertEqual(beyond(0, c, d, t), [0])


class WholeLengths(unittest.TestCase):
    def test_kind_1_alone_just_so(self):
        for dx, dy, whole in ((1, 0, 1), (3, 4, 5), (0, 4095, 4095), (4059, 4060, 5741)):
            t = text([(0, 0), (dx, dy)])
            for d in (1, 2, 7, 10**6, GREATEST // whole):
                self.assertEqual(beyond(1, whole * d, d, t), [0])
                self.assertEqual(beyond(1, whole * d - 1, d, t), [1])
                self.assertEqual(beyond(1, whole * d + 1, d, t) if whole * d < GREATEST else [0], [0])

    def test_kind_1_alone_next_to_1(self):
        t = text([(8, 8), (8, 9)])
        self.assertEqual(beyond(1, GREATEST, GREATEST, t), [0])
        self.assertEqual(beyond(1, GREATEST - 1, GREATEST - 1, t), [0])
        self.assertEqual(beyond(1, GREATEST - 1, GREATEST, t), [1])
        self.assertEqual(beyond(1, GREATEST, GREATEST - 1, t), [0])
        self.assertEqual(beyond(1, 2**63, 2**63, t), [0])
        self.assertEqual(beyond(1, 2**63 - 1, 2**63, t), [1])

    def test_several_pieces_just_so(self):
        t = text([(x, 7) for x in range(65)])
        self.assertEqual(beyond(GREATEST, 64, 1, t), [0])
        self.assertEqual(beyond(GREATEST, 63, 1, t), [1])
        self.assertEqual(beyond(GREATEST - 1, 63, 1, t), [0])
        self.assertEqual(beyond(1 << 63, 1, 1, t), [0])

    def test_kind_1_among_others(self):
        # 5 and the root of 2: 6.41421356..
        t = text([(0, 0), (3, 4), (4, 5)])
        self.assertEqual(beyond(3, 641421356, 10**8, t), [1])
        self.assertEqual(beyond(3, 641421357, 10**8, t), [0])
        self.assertEqual(beyond(3, 5, 1, t), [1])
        self.assertEqual(beyond(3, 0, 1, t), [1])


class JustAboveAndJustBelow(unittest.TestCase):
    def check(self, kinds, far):
        """The fractions nearest to the set's length, the last of them at least `far` binary places near."""
        t, a, b = both_sides(kinds)
        self.assertEqual(b, 0)
        low, high = enclosed(kinds)
        found = fractions_near(kinds)
        for c, d in found:
            self.assertFalse(low <= Fraction(c, d) <= high)
            self.assertEqual(beyond(a, c, d, t), [1] if Fraction(c, d) < low else [0], (kinds, c, d))
        answers = [beyond(a, c, d, t) for c, d in found[-2:]]
        self.assertEqual(sorted(answers), [[0], [1]])
        self.assertLess(abs(low - Fraction(*found[-1])) * 2**far, 1)

    def test_one_kind(self):
        self.check({2: 1}, 124)
        self.check({5: 1}, 120)
        for s in OTHER_KINDS:
            self.check({s: 1}, 110)
            self.check({s: 17}, 100)

    def test_two_kinds(self):
        self.check({2: 1, 5: 1}, 110)
        self.check({1: 100, 2: 3}, 100)
        self.check({10: 5, 61: 4}, 100)

    def test_ten_kinds_and_kind_1(self):
        self.check({s: 1 for s in OTHER_KINDS[:10]}, 100)
        self.check({s: 1 for s in [1] + OTHER_KINDS[:10]}, 100)

    def test_c_and_d_near_the_greatest(self):
        # Of all c, the two around d times the root of 2, d as great as it may be.
        t = text([(0, 0), (1, 1)])
        for d in range(13043817825332782212 - 20, 13043817825332782212):
            c = int(enclosed({2: 1})[0] * d)
            self.assertLess(2**63, c)
            self.assertLess(c + 1, 2**64)
            self.assertEqual(beyond(1, c, d, t), [1])
            self.assertEqual(beyond(1, c + 1, d, t), [0])

    def test_so_near_that_tens_of_places_do_not_tell(self):
        for k, times, whole, above in NEAR_WHOLE:
            t, a, b = both_sides(dict(zip(OTHER_KINDS, times)))
            self.assertEqual(beyond(a, whole, 10**k, t), [1] if above else [0])
            self.assertEqual(beyond(a, 1000 * whole, 1000 * 10**k, t), [1] if above else [0])
            self.assertEqual(beyond(a, whole - 1, 10**k, t), [1])
            self.assertEqual(beyond(a, whole + 1, 10**k, t), [0])


class WithTheOtherCalls(unittest.TestCase):
    def mixed(self, numbers):
        """(t, a, the roots of a) with any of ten kinds and kind 1."""
        kinds = OTHER_KINDS[:10] + [1]
        vectors = []
        for _ in range(1 + numbers.below(30)):
            x, y = DIRECTIONS[kinds[numbers.below(11)]]
            c = 1 + numbers.below(511 // max(x, y))
            vectors.append((c * x, c * y))
        a = numbers.below(2**32) % 2 ** len(vectors)
        return lay(vectors), a, [dx * dx + dy * dy for i, (dx, dy) in enumerate(vectors) if a >> i & 1]

    def test_goes_with_length(self):
        numbers = Numbers(31)
        for _ in range(25):
            t, a, roots = self.mixed(numbers)
            whole = all(s == 1 for s in kinds_of(roots))
            for k in range(7):
                m = length(a, k, t)[1]
                self.assertEqual(beyond(a, m + 1, 10**k, t), [0])
                self.assertEqual(beyond(a, m, 10**k, t), [0] if whole else [1])

    def test_goes_with_whole_lengths(self):
        t = text([(0, 0), (3, 4), (3, 1000), (8, 1012), (4095, 1012)])
        for a in range(16):
            for k in range(7):
                m = length(a, k, t)[1]
                self.assertEqual(beyond(a, m, 10**k, t), [0])
                self.assertEqual(beyond(a, m + 1, 10**k, t), [0])
                self.assertEqual(beyond(a, m - 1, 10**k, t) if m > 0 else [1], [1])

    def test_what_is_longer_than_something_longer_is_longer(self):
        t = text([(0, 0), (7, 0), (7, 5), (12, 9)], [(100, 0), (103, 8)])
        fractions = [(c, d) for d in (1, 3, 10) for c in range(0, 30 * d, d + 1)]
        answers = {(a, c, d): beyond(a, c, d, t) for a in range(16) for c, d in fractions}
        for a in range(16):
            for c, d in fractions:
                for p, q in fractions:
                    if answers[a, c, d] == [1] and Fraction(p, q) <= Fraction(c, d):
                        self.assertEqual(answers[a, p, q], [1])
            for b in range(16):
                if compare(a, b, t) == [2]:
                    for c, d in fractions:
                        self.assertLessEqual(answers[b, c, d], answers[a, c, d])

    def test_against_slow_reckoning(self):
        numbers = Numbers(37)
        for _ in range(40):
            t, a, roots = self.mixed(numbers)
            for _ in range(3):
                d = 1 + numbers.below(2**32 - 1) * numbers.below(2**32)
                c = numbers.below(6000) * d
                c = (c + numbers.below(2**32)) % 2**64
                self.assertEqual(beyond(a, c, d, t), beyond_asked(roots, c, d))

    def test_any_pieces_at_all(self):
        numbers = Numbers(41)
        for _ in range(60):
            vectors = [(numbers.below(511) + 1, numbers.below(512)) for _ in range(1 + numbers.below(14))]
            roots = [dx * dx + dy * dy for dx, dy in vectors]
            c, d = numbers.below(3000 * len(vectors)), 1 + numbers.below(10)
            self.assertEqual(beyond(2 ** len(vectors) - 1, c, d, lay(vectors)), beyond_asked(roots, c, d))


if __name__ == "__main__":
    unittest.main()
