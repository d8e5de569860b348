"""sticks: how many sticks, each d long, are needed for a set in a row."""

import unittest

from tests.helper import (DIRECTIONS, NEAR_WHOLE, OTHER_KINDS, Numbers, beyond, both_sides, lay, length, sticks, sticks_asked,
                          text)

GREATEST_D = 2**32 - 1


class OrdinarySticks(unittest.TestCase):
    def test_one_piece(self):
        # 7.07106781..
        t = text([(0, 0), (5, 5)])
        told = [sticks(1, d, t) for d in range(1, 11)]
        self.assertEqual(told, [[0, m] for m in (8, 4, 3, 2, 2, 2, 2, 1, 1, 1)])

    def test_pieces_in_a_row(self):
        # 1.41421356.. three times, 4.24264068.. together: not two sticks for each piece.
        t = lay([(1, 1), (1, 1), (1, 1)])
        self.assertEqual(sticks(0b001, 1, t), [0, 2])
        self.assertEqual(sticks(0b101, 1, t), [0, 3])
        self.assertEqual(sticks(0b111, 1, t), [0, 5])
        self.assertEqual(sticks(0b111, 2, t), [0, 3])
        self.assertEqual(sticks(0b111, 5, t), [0, 1])

    def test_set_of_no_pieces(self):
        for t in (text([(0, 0), (1, 1)]), text([(0, 0), (3, 4), (9, 2)])):
            for d in (1, 2, 1000, GREATEST_D):
                self.assertEqual(sticks(0, d, t), [0, 0])

    def test_d_1(self):
        t = text([(0, 0), (3, 4), (4, 5)])
        self.assertEqual(sticks(0b01, 1, t), [0, 5])
        self.assertEqual(sticks(0b10, 1, t), [0, 2])
        self.assertEqual(sticks(0b11, 1, t), [0, 7])

    def test_greatest_d(self):
        t = text([(0, 4095), (4095, 0)], [(0, 0), (1, 0)])
        for a in (1, 2, 3):
            self.assertEqual(sticks(a, GREATEST_D, t), [0, 1])

    def test_many_sticks(self):
        t = text(*[[(x, 0), (4095, 4095 - x)] for x in range(64)])
        self.assertEqual(sticks(2**64 - 1, 1, t), sticks_asked([2 * (4095 - x) ** 2 for x in range(64)], 1))
        self.assertEqual(sticks(2**64 - 1, 1, t), [0, 367787])


class JustSo(unittest.TestCase):
    def test_one_piece(self):
        t = text([(0, 0), (0, 4095)])
        for d in (1, 3, 5, 7, 9, 13, 455, 1365, 4095):
            self.assertEqual(4095 % d, 0)
            self.assertEqual(sticks(1, d, t), [0, 4095 // d])
        self.assertEqual(sticks(1, 4094, t), [0, 2])
        self.assertEqual(sticks(1, 4096, t), [0, 1])

    def test_every_length_and_d(self):
        t = text([(x, 7) for x in range(13)])
        for whole in range(13):
            for d in range(1, 15):
                self.assertEqual(sticks((1 << whole) - 1, d, t), [0, -(-whole // d)])

    def test_sloping_pieces_of_kind_1(self):
        t = text([(0, 0), (3, 4), (8, 16), (28, 37)])
        self.assertEqual(sticks(0b001, 5, t), [0, 1])
        self.assertEqual(sticks(0b011, 6, t), [0, 3])
        self.assertEqual(sticks(0b011, 9, t), [0, 2])
        self.assertEqual(sticks(0b111, 47, t), [0, 1])
        self.assertEqual(sticks(0b111, 1, t), [0, 47])
        self.assertEqual(sticks(0b111, 46, t), [0, 2])


class JustAboveAndJustBelow(unittest.TestCase):
    def test_just_above(self):
        for n in (1, 2, 1000, 4095):
            t = text([(0, 0), (n, 1)])
            self.assertEqual(sticks(1, n, t), [0, 2])
            self.assertEqual(sticks(1, 1, t), [0, n + 1])
            self.assertEqual(sticks(1, n + 1, t), [0, 1])
        self.assertEqual(sticks(1, 1365, text([(0, 0), (4095, 1)])), [0, 4])
        # 2 985 985 = 1393 1393 + 1
        t = text([(0, 0), (985, 985)])
        self.assertEqual(sticks(1, 1393, t), [0, 2])
        self.assertEqual(sticks(1, 199, t), [0, 8])
        self.assertEqual(sticks(1, 7, t), [0, 200])

    def test_just_below(self):
        # 2 2378 2378 = 3363 3363 - 1
        t = text([(0, 0), (2378, 2378)])
        for d in (1, 3, 19, 57, 59, 177, 1121, 3363):
            self.assertEqual(3363 % d, 0)
            self.assertEqual(sticks(1, d, t), [0, 3363 // d])
        self.assertEqual(sticks(1, 3362, t), [0, 2])

    def test_so_near_that_tens_of_places_do_not_tell(self):
        tried = 0
        for k, times, whole, above in NEAR_WHOLE:
            if k > 0:
                continue
            t, a, b = both_sides(dict(zip(OTHER_KINDS, times)))
            for d in [d for d in range(1, whole + 1) if whole % d == 0]:
                self.assertEqual(sticks(a, d, t), [0, whole // d + (1 if above else 0)])
                tried += 1
        self.assertGreater(tried, 8)


class Enough(unittest.TestCase):
    """Sticks are enough, one less isn't."""

    def check(self, a, d, t):
        answer = sticks(a, d, t)
        self.assertEqual((len(answer), answer[0]), (2, 0))
        m = answer[1]
        self.assertGreaterEqual(m, 0)
        self.assertEqual(beyond(a, m * d, 1, t), [0])
        if m > 0:
            self.assertEqual(beyond(a, (m - 1) * d, 1, t), [1])
        for k in (0, 6):
            told = length(a, k, t)[1]
            self.assertLessEqual(told, m * d * 10**k)
            self.assertTrue(m == 0 or told >= (m - 1) * d * 10**k)

    def test_mixed_sets(self):
        numbers = Numbers(43)
        kinds = OTHER_KINDS[:10] + [1]
        for _ in range(30):
            vectors = []
            for _ in range(1 + numbers.below(64)):
                x, y = DIRECTIONS[kinds[numbers.below(11)]]
                c = 1 + numbers.below(511 // max(x, y))
                vectors.append((c * y, c * x))
            t = lay(vectors)
            a = numbers.below(2**32) * numbers.below(2**32) % 2 ** len(vectors)
            roots = [dx * dx + dy * dy for i, (dx, dy) in enumerate(vectors) if a >> i & 1]
            for d in (1, 2, 1 + numbers.below(100), 1 + numbers.below(10000), GREATEST_D):
                self.check(a, d, t)
                self.assertEqual(sticks(a, d, t), sticks_asked(roots, d))

    def test_any_pieces_at_all(self):
        numbers = Numbers(47)
        for _ in range(60):
            vectors = [(numbers.below(511) + 1, numbers.below(512)) for _ in range(1 + numbers.below(14))]
            roots = [dx * dx + dy * dy for dx, dy in vectors]
            d = 1 + numbers.below(1000)
            self.assertEqual(sticks(2 ** len(vectors) - 1, d, lay(vectors)), sticks_asked(roots, d))


if __name__ == "__main__":
    unittest.main()
