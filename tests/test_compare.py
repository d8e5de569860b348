"""compare: whether one set is as long as another, shorter or longer."""

import unittest

from tests.helper import (DIRECTIONS, NEAR_NOTHING, OTHER_KINDS, Numbers, both_sides, compare, compare_asked, enclosed,
                          lay, text)


class OrdinaryComparisons(unittest.TestCase):
    def test_shorter_longer_and_the_same(self):
        t = text([(0, 0), (3, 0), (3, 4)], [(100, 100), (104, 100)])
        self.assertEqual(compare(0b001, 0b010, t), [1])
        self.assertEqual(compare(0b010, 0b001, t), [2])
        self.assertEqual(compare(0b010, 0b100, t), [0])
        self.assertEqual(compare(0b100, 0b010, t), [0])
        self.assertEqual(compare(0b111, 0b011, t), [2])
        self.assertEqual(compare(0b011, 0b111, t), [1])

    def test_set_of_no_pieces(self):
        t = text([(0, 0), (1, 1), (4, 1)])
        self.assertEqual(compare(0, 0, t), [0])
        self.assertEqual(compare(0, 1, t), [1])
        self.assertEqual(compare(2, 0, t), [2])

    def test_same_set_twice(self):
        t = lay([(i + 1, 3 * i % 64 + 1) for i in range(64)])
        for a in (0, 1, 1 << 63, 2**64 - 1, 0x5555555555555555, 0x123456789ABCDEF0):
            self.assertEqual(compare(a, a, t), [0])

    def test_roots_of_other_kinds(self):
        # 5 is between the root of 24 and that of 26; the roots of 2 and 5 together are less than that of 13 twice.
        t = lay([(5, 0), (5, 1), (1, 1), (2, 1), (3, 2), (3, 2), (4, 3)])
        self.assertEqual(compare(0b0000001, 0b0000010, t), [1])
        self.assertEqual(compare(0b0001100, 0b0110000, t), [1])
        self.assertEqual(compare(0b0001100, 0b0010000, t), [2])
        self.assertEqual(compare(0b1000000, 0b0000001, t), [0])

    def test_order_of_lengths_goes_through(self):
        t = text([(0, 0), (7, 0), (7, 5), (12, 9)], [(100, 0), (103, 8), (110, 8)])
        sets = list(range(32))
        answers = {(a, b): compare(a, b, t)[0] for a in sets for b in sets}
        for a in sets:
            for b in sets:
                self.assertEqual(answers[b, a], (0, 2, 1)[answers[a, b]])
                for c in sets:
                    if answers[a, b] == 2 and answers[b, c] != 1:
                        self.assertEqual(answers[a, c], 2)


class TheSameThoughNoTwoPiecesAre(unittest.TestCase):
    def test_root_of_8(self):
        t = lay([(2, 2), (1, 1), (1, 1)])
        self.assertEqual(compare(0b001, 0b110, t), [0])
        self.assertEqual(compare(0b110, 0b001, t), [0])
        self.assertEqual(compare(0b001, 0b010, t), [2])

    def test_other_directions(self):
        # The root of 50 five times that of 2, of 125 five times that of 5, of 325 five times that of 13.
        for whole, part, times in (((7, 1), (1, 1), 5), ((11, 2), (2, 1), 5), ((1, 18), (2, 3), 5), ((20, 21), (1, 0), 29)):
            t = lay([whole] + [part] * times)
            others = 2 ** (times + 1) - 2
            self.assertEqual(compare(1, others, t), [0])
            self.assertEqual(compare(1, others - 2, t), [2])

    def test_great_factors(self):
        t = text([(0, 0), (4059, 4060)], [(4095, 0), (4095, 4095)], [(4094, 0), (4094, 1646)])
        self.assertEqual(compare(0b001, 0b110, t), [0])
        t = text([(0, 0), (4059, 4060)], [(4095, 0), (4095, 4095)], [(4094, 0), (4094, 1645)])
        self.assertEqual(compare(0b001, 0b110, t), [2])
        t = text([(0, 0), (4093, 4093)], [(1, 0), (4003, 4002)], [(4004, 4001), (4095, 4092)])
        self.assertEqual(compare(0b001, 0b110, t), [0])

    def test_several_kinds_at_once(self):
        vectors = [(4, 4), (6, 3), (5, 12), (3, 3), (1, 1), (2, 4), (2, 1), (6, 8), (3, 0)]
        t = lay(vectors)
        self.assertEqual(compare(0b000000111, 0b111111000, t), [0])
        for i in range(9):
            self.assertEqual(compare(0b111 & ~(1 << i), 0b111111000 & ~(1 << i), t), [1] if i < 3 else [2])

    def test_sixty_four_pieces(self):
        t = lay([(i + 1, i + 1) for i in range(32)] + [(32 - i, 32 - i) for i in range(32)])
        low = 2**32 - 1
        self.assertEqual(compare(low, low << 32, t), [0])
        self.assertEqual(compare(low, low << 32 & ~(1 << 63), t), [2])
        self.assertEqual(compare(low & ~2, low << 32 & ~(1 << 63), t), [1])


class NextToTheSame(unittest.TestCase):
    def test_tens_of_places_do_not_tell_them_apart(self):
        for times, ones, places in NEAR_NOTHING:
            kinds = dict(zip(OTHER_KINDS, times))
            kinds[1] = ones
            low, high = enclosed(kinds)
            self.assertLess(max(abs(low), abs(high)) * 2**places, 1)
            t, a, b = both_sides(kinds)
            self.assertEqual(compare(a, b, t), [2] if low > 0 else [1])
            self.assertEqual(compare(b, a, t), [1] if low > 0 else [2])

    def test_next_to_a_whole_number(self):
        # 2 2378 2378 = 3363 3363 - 1, 2 985 985 = 1393 1393 + 1
        t = text([(0, 0), (2378, 2378)], [(0, 4000), (3363, 4000)], [(0, 10), (0, 1403)], [(2000, 0), (2985, 985)])
        self.assertEqual(compare(1, 2, t), [1])
        self.assertEqual(compare(8, 4, t), [2])


class AgainstSlowReckoning(unittest.TestCase):
    def check(self, vectors, numbers):
        t = lay(vectors)
        a, b = (numbers.below(2**32) << 32 | numbers.below(2**32) for _ in range(2))
        a, b = a % 2 ** len(vectors), b % 2 ** len(vectors)
        roots = [dx * dx + dy * dy for dx, dy in vectors]
        plus = [n for i, n in enumerate(roots) if a >> i & 1]
        minus = [n for i, n in enumerate(roots) if b >> i & 1]
        self.assertEqual(compare(a, b, t), compare_asked(plus, minus))

    def test_few_kinds(self):
        numbers = Numbers(3)
        kinds = OTHER_KINDS[:10] + [1]
        for _ in range(60):
            vectors = []
            for _ in range(1 + numbers.below(64)):
                x, y = DIRECTIONS[kinds[numbers.below(11)]]
                c = 1 + numbers.below(9)
                vectors.append((c * x, c * y))
            self.check(vectors, numbers)

    def test_any_pieces_at_all(self):
        numbers = Numbers(5)
        for _ in range(60):
            self.check([(numbers.below(511) + 1, numbers.below(512)) for _ in range(1 + numbers.below(20))], numbers)


if __name__ == "__main__":
    unittest.main()
