"""Refusals of floor and order, each alone and each ahead of those behind it: -2, -1, -8."""

import unittest

from tests.helper import GREATEST_NUMBER, floor, order

ELEVEN = [2, 3, 5, 6, 7, 10, 11, 13, 14, 15, 17]
TOO_GREAT = [GREATEST_NUMBER + 1, GREATEST_NUMBER + 2, 2**26, 2**31, 2**32 - 1, 5792 * 5792]


class TooLong(unittest.TestCase):
    def test_floor(self):
        for n in (0, 1, 2, GREATEST_NUMBER):
            self.assertEqual(floor(0, [n] * 64)[0], 0)
            for count in (65, 66, 70):
                self.assertEqual(floor(0, [n] * count), [-2])

    def test_order_either_list(self):
        for n in (0, 1, 2, GREATEST_NUMBER):
            self.assertEqual(order([n] * 64, [n] * 64), [0])
            for count in (65, 66, 70):
                self.assertEqual(order([n] * count, [n]), [-2])
                self.assertEqual(order([n], [n] * count), [-2])
                self.assertEqual(order([n] * count, []), [-2])
                self.assertEqual(order([], [n] * count), [-2])
                self.assertEqual(order([n] * count, [n] * count), [-2])

    def test_lists_are_counted_each_by_itself(self):
        self.assertEqual(order([2] * 64, [2] * 63), [2])
        self.assertEqual(order([2] * 40, [2] * 41), [1])

    def test_ahead_of_the_others(self):
        self.assertEqual(floor(7, [1] * 65), [-2])
        self.assertEqual(floor(2**32 - 1, [1] * 70), [-2])
        for n in TOO_GREAT:
            self.assertEqual(floor(0, [n] * 65), [-2])
            self.assertEqual(floor(7, [1] * 64 + [n]), [-2])
            self.assertEqual(order([n] * 65, []), [-2])
            self.assertEqual(order([], [n] * 65), [-2])
            self.assertEqual(order([n], [1] * 65), [-2])
            self.assertEqual(order([1] * 65, [n]), [-2])
        self.assertEqual(floor(0, ELEVEN * 6), [-2])
        self.assertEqual(order(ELEVEN * 6, []), [-2])
        self.assertEqual(order(ELEVEN, [0] * 65), [-2])
        self.assertEqual(order([0] * 65, ELEVEN), [-2])


class OutOfRange(unittest.TestCase):
    def test_k(self):
        self.assertEqual(floor(6, [9]), [0, 3000000])
        for k in (7, 8, 64, 2**31, 2**32 - 1):
            for u in ([], [0], [9], [2, 3]):
                self.assertEqual(floor(k, u), [-1])

    def test_number_of_floor(self):
        self.assertEqual(floor(0, [GREATEST_NUMBER]), [0, 5791])
        for n in TOO_GREAT:
            for u in ([n], [n, 1], [1, n], [0, n, 0], [1] * 63 + [n]):
                self.assertEqual(floor(0, u), [-1])
                self.assertEqual(floor(7, u), [-1])

    def test_number_of_either_list(self):
        self.assertEqual(order([GREATEST_NUMBER], [GREATEST_NUMBER]), [0])
        self.assertEqual(order([GREATEST_NUMBER], []), [2])
        self.assertEqual(order([], [GREATEST_NUMBER]), [1])
        for n in TOO_GREAT:
            for u in ([n], [n, 1], [1, n], [0, n, 0], [1] * 63 + [n]):
                for v in ([], [1], [0] * 64):
                    self.assertEqual(order(u, v), [-1])
                    self.assertEqual(order(v, u), [-1])
                self.assertEqual(order(u, u), [-1])

    def test_ahead_of_too_many_kinds(self):
        self.assertEqual(floor(0, ELEVEN), [-8])
        self.assertEqual(floor(7, ELEVEN), [-1])
        self.assertEqual(order(ELEVEN, []), [-8])
        for n in TOO_GREAT:
            self.assertEqual(floor(0, ELEVEN + [n]), [-1])
            self.assertEqual(floor(0, [n] + ELEVEN), [-1])
            self.assertEqual(order(ELEVEN + [n], []), [-1])
            self.assertEqual(order(ELEVEN, [n]), [-1])
            self.assertEqual(order([n], ELEVEN), [-1])


class TooManyKinds(unittest.TestCase):
    def test_ten_are_answered_and_eleven_refused(self):
        for i in range(11):
            ten = ELEVEN[:i] + ELEVEN[i + 1:]
            self.assertEqual(floor(0, ten)[0], 0)
            self.assertEqual(order(ten, []), [2])
            self.assertEqual(order([], ten), [1])
        for k in range(7):
            self.assertEqual(floor(k, ELEVEN), [-8])
        self.assertEqual(order(ELEVEN, []), [-8])
        self.assertEqual(order([], ELEVEN), [-8])

    def test_ten_told(self):
        self.assertEqual(floor(6, ELEVEN[:10]), [0, 28176667])
        self.assertEqual(floor(6, ELEVEN[:10] + [1, 4]), [0, 31176667])

    def test_kind_1_and_0_do_not_count(self):
        more = [0, 1, 4, 9, 0, 25]
        self.assertEqual(floor(0, ELEVEN[:10] + more), [0, 39])
        self.assertEqual(floor(0, ELEVEN + more), [-8])
        self.assertEqual(order(ELEVEN[:10] + more, [0, 1]), [2])
        self.assertEqual(order(ELEVEN[:10], more), [2])
        self.assertEqual(order(more, ELEVEN[:10]), [1])
        self.assertEqual(order(ELEVEN, more), [-8])
        self.assertEqual(order(more, ELEVEN), [-8])
        self.assertEqual(order(ELEVEN[:10] + [0], [0, 0]), [2])
        self.assertEqual(floor(0, [c * c for c in range(64)]), [0, 2016])

    def test_kinds_are_without_square_factors(self):
        self.assertEqual(floor(0, [2 * c * c for c in range(1, 12)]), [0, 93])
        again = [8, 27, 125, 24, 28, 40, 44, 52, 56, 60]
        self.assertEqual(floor(0, ELEVEN[:10] + again)[0], 0)
        self.assertEqual(floor(0, ELEVEN[:10] + again + [68]), [-8])

    def test_many_numbers_of_ten_kinds(self):
        self.assertEqual(floor(6, ELEVEN[:10] * 6), [0, 169060007])
        self.assertEqual(order(ELEVEN[:10] * 6, ELEVEN[:10] * 5), [2])

    def test_of_order_the_difference_counts(self):
        self.assertEqual(order(ELEVEN, ELEVEN), [0])
        self.assertEqual(order(ELEVEN, ELEVEN[::-1]), [0])
        self.assertEqual(order(ELEVEN + [1], ELEVEN), [2])
        for n in ELEVEN:
            self.assertEqual(order(ELEVEN, [n]), [2])
            self.assertEqual(order([n], ELEVEN), [1])
            self.assertEqual(order(ELEVEN, [4 * n]), [-8])
            self.assertEqual(order(ELEVEN + [n], [4 * n]), [2])
            self.assertEqual(order([4 * n], [n] + ELEVEN), [1])

    def test_kinds_of_either_list_count(self):
        self.assertEqual(order(ELEVEN[:5], ELEVEN[5:10]), [1])
        self.assertEqual(order(ELEVEN[:5], ELEVEN[5:]), [-8])
        self.assertEqual(order(ELEVEN[5:], ELEVEN[:5]), [-8])
        self.assertEqual(order(ELEVEN[:5] + [19], ELEVEN[5:10] + [19]), [1])

    def test_sixty_four_kinds(self):
        kinds = [n for n in range(2, 200) if all(n % (c * c) for c in range(2, 15))][:64]
        self.assertEqual(len(kinds), 64)
        self.assertEqual(floor(0, kinds), [-8])
        self.assertEqual(order(kinds, kinds[:53]), [-8])
        self.assertEqual(order(kinds, kinds[:54]), [2])
        self.assertEqual(order(kinds[10:], kinds), [1])


if __name__ == "__main__":
    unittest.main()
