"""length: the greatest whole number that's at most 10^k times a set's length."""

import unittest

from tests.helper import DIRECTIONS, NEAR_WHOLE, OTHER_KINDS, Numbers, both_sides, lay, length, length_asked, text


class OrdinaryLengths(unittest.TestCase):
    def test_one_piece_at_every_k(self):
        t = text([(0, 0), (1, 1)])
        told = [length(1, k, t) for k in range(7)]
        self.assertEqual(told, [[0, 1], [0, 14], [0, 141], [0, 1414], [0, 14142], [0, 141421], [0, 1414213]])

    def test_one_stroke_of_several_pieces(self):
        t = text([(0, 0), (3, 4), (4, 4), (6, 3)])
        self.assertEqual(length(0b001, 0, t), [0, 5])
        self.assertEqual(length(0b010, 0, t), [0, 1])
        self.assertEqual(length(0b100, 6, t), [0, 2236067])
        self.assertEqual(length(0b111, 6, t), [0, 8236067])

    def test_pieces_are_numbered_stroke_by_stroke(self):
        t = text([(0, 0), (7, 0), (7, 9)], [(100, 100), (100, 111)], [(200, 0), (213, 0), (213, 17)])
        self.assertEqual([length(1 << i, 0, t) for i in range(5)], [[0, 7], [0, 9], [0, 11], [0, 13], [0, 17]])
        self.assertEqual(length(0b10101, 2, t), [0, 3500])
        self.assertEqual(length(0b11111, 0, t), [0, 57])

    def test_way_of_a_piece_does_not_matter(self):
        for ends in ([(5, 9), (7, 12)], [(7, 12), (5, 9)], [(5, 12), (7, 9)], [(7, 9), (5, 12)]):
            self.assertEqual(length(1, 6, text(ends)), [0, 3605551])

    def test_set_of_no_pieces(self):
        for t in (text([(0, 0), (1, 1)]), text([(0, 0), (1, 1), (9, 2)], [(100, 0), (0, 4095)])):
            for k in range(7):
                self.assertEqual(length(0, k, t), [0, 0])

    def test_longest_piece(self):
        t = text([(0, 4095), (4095, 0)])
        self.assertEqual(length(1, 0, t), [0, 5791])
        self.assertEqual(length(1, 6, t), [0, 5791204537])
        self.assertEqual(length(1, 6, t), length_asked([33538050], 6))


class WholeLengths(unittest.TestCase):
    def test_whole_numbers_just_so(self):
        for dx, dy, whole in ((1, 0, 1), (0, 4095, 4095), (3, 4, 5), (4059, 4060, 5741), (2047, 0, 2047)):
            t = text([(0, 0), (dx, dy)])
            for k in range(7):
                self.assertEqual(length(1, k, t), [0, whole * 10**k])

    def test_several_whole_pieces(self):
        t = text([(0, 0), (3, 4), (3, 1000), (8, 1012), (4095, 1012)])
        self.assertEqual([length(15, k, t) for k in range(7)], [[0, 5101 * 10**k] for k in range(7)])

    def test_just_above_a_whole_number(self):
        for n in (1, 2, 1000, 4095):
            t = text([(0, 0), (n, 1)])
            self.assertEqual(length(1, 0, t), [0, n])
        self.assertEqual(length(1, 3, text([(0, 0), (4095, 1)])), [0, 4095000])
        self.assertEqual(length(1, 4, text([(0, 0), (4095, 1)])), [0, 40950001])

    def test_just_below_a_whole_number(self):
        # 2 2 + 2 2 = 3 3 - 1, 12 12 + 12 12 = 17 17 - 1, 70 70 + 70 70 = 99 99 - 1
        for side, above in ((2, 3), (12, 17), (70, 99), (408, 577), (2378, 3363)):
            self.assertEqual(length(1, 0, text([(0, 0), (side, side)])), [0, above - 1])
        self.assertEqual(length(1, 3, text([(0, 0), (2378, 2378)])), [0, 3362999])

    def test_so_near_that_tens_of_places_do_not_tell(self):
        for k, times, whole, above in NEAR_WHOLE:
            t, a, b = both_sides(dict(zip(OTHER_KINDS, times)))
            self.assertEqual(b, 0)
            self.assertEqual(length(a, k, t), [0, whole if above else whole - 1])


class AgainstSlowReckoning(unittest.TestCase):
    def test_sixty_four_pieces(self):
        everything = 2**64 - 1
        flat = text([(x, 7) for x in range(65)])
        self.assertEqual(length(everything, 6, flat), [0, 64000000])
        zigzag = text([(x, x % 2) for x in range(65)])
        self.assertEqual(length(everything, 6, zigzag), [0, 90509667])
        self.assertEqual(length(1 << 63, 6, zigzag), [0, 1414213])
        self.assertEqual(length(everything - 1, 6, zigzag), [0, 89095454])
        single = lay([(i + 1, 2 * i + 2) for i in range(64)])
        self.assertEqual(length(everything, 6, single), length_asked([5 * n * n for n in range(1, 65)], 6))

    def test_every_k_of_mixed_sets(self):
        numbers = Numbers(7)
        kinds = OTHER_KINDS[:10] + [1]
        for _ in range(25):
            vectors = []
            for _ in range(1 + numbers.below(64)):
                x, y = DIRECTIONS[kinds[numbers.below(11)]]
                c = 1 + numbers.below(511 // max(x, y))
                vectors.append((c * x, c * y) if numbers.below(2) else (c * y, c * x))
            t = lay(vectors)
            a = numbers.below(2**32) * numbers.below(2**32) % 2 ** len(vectors)
            roots = [dx * dx + dy * dy for i, (dx, dy) in enumerate(vectors) if a >> i & 1]
            for k in range(7):
                self.assertEqual(length(a, k, t), length_asked(roots, k))

    def test_any_pieces_at_all(self):
        numbers = Numbers(11)
        for _ in range(40):
            vectors = [(numbers.below(511) + 1, numbers.below(512)) for _ in range(1 + numbers.below(14))]
            roots = [dx * dx + dy * dy for dx, dy in vectors]
            k = numbers.below(7)
            self.assertEqual(length(2 ** len(vectors) - 1, k, lay(vectors)), length_asked(roots, k))

    def test_any_long_piece(self):
        numbers = Numbers(13)
        for _ in range(60):
            dx, dy = numbers.below(4095) + 1, numbers.below(4096)
            self.assertEqual(length(1, 6, text([(0, dy), (dx, 0)])), length_asked([dx * dx + dy * dy], 6))


if __name__ == "__main__":
    unittest.main()
