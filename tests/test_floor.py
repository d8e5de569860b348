"""floor: the greatest whole number that's at most 10^k times a sum of roots."""

import unittest
from math import isqrt

from tests.helper import GREATEST_NUMBER, NEAR_WHOLE, OTHER_KINDS, Numbers, both_lists, floor, length_asked

TEN_KINDS = [2, 3, 5, 6, 7, 10, 11, 13, 14, 15]


class OrdinarySums(unittest.TestCase):
    def test_one_root_at_every_k(self):
        told = [floor(k, [2]) for k in range(7)]
        self.assertEqual(told, [[0, 1], [0, 14], [0, 141], [0, 1414], [0, 14142], [0, 141421], [0, 1414213]])
        told = [floor(k, [3]) for k in range(7)]
        self.assertEqual(told, [[0, 1], [0, 17], [0, 173], [0, 1732], [0, 17320], [0, 173205], [0, 1732050]])

    def test_several_roots(self):
        self.assertEqual(floor(6, [2, 3]), [0, 3146264])
        self.assertEqual(floor(6, [3, 2]), [0, 3146264])
        self.assertEqual(floor(0, [2, 3]), [0, 3])
        self.assertEqual(floor(6, [7, 7, 7]), [0, 7937253])
        self.assertEqual(floor(6, [1, 2, 3, 4, 5, 6, 7, 8, 9, 10]), [0, 22468278])

    def test_roots_are_not_rounded_one_by_one(self):
        # 1.73205.. four times is 6.92820..
        self.assertEqual(floor(0, [3, 3, 3, 3]), [0, 6])
        self.assertEqual(floor(1, [3, 3, 3, 3]), [0, 69])

    def test_list_of_no_numbers(self):
        for k in range(7):
            self.assertEqual(floor(k, []), [0, 0])

    def test_0_among_the_numbers(self):
        for k in range(7):
            asked = floor(k, [2, 9])
            self.assertEqual(asked[0], 0)
            for u in ([0, 2, 9], [2, 0, 9], [2, 9, 0], [0, 0, 2, 0, 9, 0], [2, 9] + [0] * 62):
                self.assertEqual(floor(k, u), asked)

    def test_nothing_but_0(self):
        for k in range(7):
            for count in (1, 2, 63, 64):
                self.assertEqual(floor(k, [0] * count), [0, 0])

    def test_greatest_number(self):
        self.assertEqual([floor(k, [GREATEST_NUMBER]) for k in (0, 3, 6)], [[0, 5791], [0, 5791204], [0, 5791204537]])
        self.assertEqual(floor(6, [GREATEST_NUMBER] * 64), [0, 370637090426])
        self.assertEqual(floor(6, [GREATEST_NUMBER] * 64), length_asked([GREATEST_NUMBER] * 64, 6))
        self.assertEqual(floor(6, [GREATEST_NUMBER - 1]), length_asked([GREATEST_NUMBER - 1], 6))


class WholeSums(unittest.TestCase):
    def test_just_so(self):
        for c in (1, 2, 3, 10, 1000, 5790, 5791):
            for k in range(7):
                self.assertEqual(floor(k, [c * c]), [0, c * 10**k])
                self.assertEqual(floor(k, [c * c, 0, 1]), [0, (c + 1) * 10**k])

    def test_sixty_four_whole_roots(self):
        for k in range(7):
            self.assertEqual(floor(k, [c * c for c in range(64)]), [0, 2016 * 10**k])
            self.assertEqual(floor(k, [1] * 64), [0, 64 * 10**k])
            self.assertEqual(floor(k, [5791 * 5791] * 64), [0, 64 * 5791 * 10**k])

    def test_one_root_just_above_and_just_below(self):
        for c in (2, 3, 10, 1000, 5790, 5791):
            self.assertEqual(floor(0, [c * c - 1]), [0, c - 1])
            self.assertEqual(floor(0, [c * c]), [0, c])
            self.assertEqual(floor(0, [c * c + 1]), [0, c])
            for k in range(7):
                for n in (c * c - 1, c * c + 1):
                    self.assertEqual(floor(k, [n]), [0, isqrt(n * 100**k)])

    def test_two_roots_just_above_and_just_below(self):
        # The roots of c c - 1 and c c + 1 are together less than 2 c, by about 1 / (4 c c c).
        for c in (2, 100, 5790):
            self.assertEqual(floor(0, [c * c - 1, c * c + 1]), [0, 2 * c - 1])
            self.assertEqual(floor(0, [c * c - 1, c * c + 2]), [0, 2 * c])
            self.assertEqual(floor(6, [c * c - 1, c * c + 1]), length_asked([c * c - 1, c * c + 1], 6))

    def test_so_near_that_tens_of_places_do_not_tell(self):
        for k, times, whole, above in NEAR_WHOLE:
            u, v = both_lists(dict(zip(OTHER_KINDS, times)))
            self.assertEqual(v, [])
            self.assertEqual(floor(k, u), [0, whole if above else whole - 1])
            self.assertEqual(floor(k, u[::-1] + [0, 1]), [0, 10**k + (whole if above else whole - 1)])


class AgainstSlowReckoning(unittest.TestCase):
    def test_every_small_number(self):
        for n in range(200):
            for k in range(7):
                self.assertEqual(floor(k, [n]), [0, isqrt(n * 100**k)])

    def test_sixty_four_numbers_of_ten_kinds_and_kind_1(self):
        numbers = Numbers(53)
        kinds = TEN_KINDS + [1]
        for _ in range(20):
            u = []
            for _ in range(64):
                s = kinds[numbers.below(11)]
                u.append(s * numbers.below(isqrt(GREATEST_NUMBER // s) + 1) ** 2)
            for k in range(7):
                answer = floor(k, u)
                self.assertEqual(answer[0], 0)
                self.assertEqual(answer, length_asked(u, k))

    def test_any_numbers_at_all(self):
        numbers = Numbers(59)
        for _ in range(60):
            u = [numbers.below(GREATEST_NUMBER + 1) for _ in range(numbers.below(13))]
            k = numbers.below(7)
            self.assertEqual(floor(k, u), length_asked(u, k))
        for _ in range(100):
            u = [numbers.below(20) for _ in range(numbers.below(65))]
            k = numbers.below(7)
            self.assertEqual(floor(k, u), length_asked(u, k))


if __name__ == "__main__":
    unittest.main()
