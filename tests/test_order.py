"""order: whether one sum of roots is the same as another, less or more."""

import unittest
from math import isqrt

from rootlength import lengths
from tests.helper import (GREATEST_NUMBER, NEAR_NOTHING, NEAR_WHOLE, OTHER_KINDS, Numbers, both_lists, compare_asked, enclosed,
                          kinds_of, order)

TEN_KINDS = [2, 3, 5, 6, 7, 10, 11, 13, 14, 15]


class OrderCase(unittest.TestCase):
    def same(self, u, v):
        self.assertEqual(order(u, v), [0], (u, v))
        self.assertEqual(order(v, u), [0], (v, u))

    def less(self, u, v):
        self.assertEqual(order(u, v), [1], (u, v))
        self.assertEqual(order(v, u), [2], (v, u))


class OrdinarySums(OrderCase):
    def test_one_root_each(self):
        self.less([2], [3])
        self.less([1], [2])
        self.same([7], [7])
        self.less([GREATEST_NUMBER - 1], [GREATEST_NUMBER])
        self.same([GREATEST_NUMBER], [GREATEST_NUMBER])
        self.less([GREATEST_NUMBER], [5792, 5792, 5791 * 5791])

    def test_several_roots(self):
        # 3.146.. against 3.162.. and 3.000, 5.382.. against 5.385..
        self.less([2, 3], [10])
        self.less([9], [2, 3])
        self.less([2, 3, 5], [29])
        self.less([29], [2, 3, 5, 0, 1])

    def test_no_numbers(self):
        self.same([], [])
        self.less([], [1])
        self.less([], [2])
        self.less([], [GREATEST_NUMBER] * 64)

    def test_lists_of_0(self):
        for count in (1, 2, 64):
            self.same([0] * count, [])
            self.same([0] * count, [0])
            self.less([0] * count, [1])
            self.less([0] * count, [2, 0])

    def test_0_adds_nothing(self):
        self.same([0, 2, 0], [2])
        self.same([3, 0], [0, 0, 3])
        self.less([2, 0], [0, 3])
        self.less([0] * 63 + [2], [3])

    def test_order_goes_through(self):
        lists = [[], [0], [1], [2], [2, 2], [8], [9], [3, 1], [7], [10], [5, 1], [2, 3], [12], [3, 3], [4, 0], [1, 1, 1]]
        answers = {(i, j): order(u, v)[0] for i, u in enumerate(lists) for j, v in enumerate(lists)}
        for i in range(len(lists)):
            for j in range(len(lists)):
                self.assertEqual(answers[j, i], (0, 2, 1)[answers[i, j]])
                for k in range(len(lists)):
                    if answers[i, j] == 2 and answers[j, k] != 1:
                        self.assertEqual(answers[i, k], 2)


class TheSameInOtherRoots(OrderCase):
    def test_one_kind(self):
        self.same([8], [2, 2])
        self.same([18], [8, 2])
        self.same([50], [8, 18])
        self.same([12, 12], [48])
        self.same([27], [3, 12])
        self.same([49], [1, 4, 16])
        self.same([9], [1] * 3)
        self.same([5791 * 5791], [5790 * 5790, 1])
        self.same([2 * 4093 * 4093], [2 * 4000 * 4000, 2 * 93 * 93])

    def test_one_kind_but_not_the_same(self):
        self.less([2, 2], [18])
        self.less([8], [2, 2, 2])
        self.less([12], [3, 3, 3])
        self.less([1, 4], [16])

    def test_several_kinds(self):
        self.same([8, 12, 45], [2, 3, 5, 2, 3, 20])
        self.same([9, 8, 7], [7, 2, 1, 4, 2])
        self.less([8, 12, 20], [2, 3, 5, 2, 3, 20])

    def test_another_order(self):
        numbers = Numbers(61)
        for _ in range(30):
            u = [numbers.below(1000) for _ in range(1 + numbers.below(64))]
            v = list(u)
            for i in range(len(v) - 1, 0, -1):
                j = numbers.below(i + 1)
                v[i], v[j] = v[j], v[i]
            self.same(u, v)
            self.same(u, sorted(u))
            self.less(u[:-1], v if u[-1] > 0 else v[:-1] + [v[-1] + 1])

    def test_one_list_handed_in_as_both(self):
        u = [2, 3, 5, 0, 9]
        self.assertEqual(lengths.order(u, u), [0])
        self.assertEqual(u, [2, 3, 5, 0, 9])

    def test_sixty_four_numbers(self):
        self.same([2] * 64, [2 * 64 * 64])
        self.same([2] * 64, [8] * 32)
        self.less([2] * 63, [8] * 32)
        self.same([c * c for c in range(64)], [2016 * 2016])
        self.same([3 * c * c for c in range(1, 65)], [3 * c * c for c in range(64, 0, -1)])
        self.less([3 * c * c for c in range(1, 64)], [3 * c * c for c in range(64, 0, -1)])


class NextToTheSame(OrderCase):
    def test_tens_of_places_do_not_tell_them_apart(self):
        for times, ones, places in NEAR_NOTHING:
            kinds = dict(zip(OTHER_KINDS, times))
            kinds[1] = ones
            low, high = enclosed(kinds)
            self.assertLess(max(abs(low), abs(high)) * 2**places, 1)
            u, v = both_lists(kinds)
            self.assertEqual(kinds_of(u, v), kinds)
            self.assertLessEqual(max(len(u), len(v)), 64)
            self.less(*((v, u) if low > 0 else (u, v)))

    def test_next_to_a_whole_number(self):
        for k, times, whole, above in NEAR_WHOLE:
            if k == 0:
                u, v = both_lists(dict(zip(OTHER_KINDS, times)))
                ones = both_lists({1: whole})[0]
                self.less(*((ones, u) if above else (u, ones)))

    def test_roots_in_a_row(self):
        # Differences of differences of the roots of n, n + 1, ..: the third, fifth and seventh are above 0.
        for times in ((1, 3, 3, 1), (1, 5, 10, 10, 5, 1), (1, 7, 21, 35, 35, 21, 7, 1)):
            for n in (0, 1, 1000, 10**6, GREATEST_NUMBER - len(times) + 1):
                u = [n + i for i in range(0, len(times), 2) for _ in range(times[i])]
                v = [n + i for i in range(1, len(times), 2) for _ in range(times[i])]
                self.less(u, v)
        self.assertEqual((len(u), len(v), max(v)), (64, 64, GREATEST_NUMBER))
        self.assertLess(enclosed(kinds_of(v, u))[1] * 2**150, 1)

    def test_two_roots_around_a_third(self):
        for n in (0, 1, 10, 1000, 10**6, GREATEST_NUMBER - 2):
            self.less([n, n + 2], [n + 1, n + 1])


class AgainstSlowReckoning(unittest.TestCase):
    def test_ten_kinds_and_kind_1(self):
        numbers = Numbers(67)
        kinds = TEN_KINDS + [1]
        for _ in range(60):
            u, v = [], []
            for numbers_of in (u, v):
                for _ in range(numbers.below(65)):
                    s = kinds[numbers.below(11)]
                    numbers_of.append(s * numbers.below(isqrt(GREATEST_NUMBER // s) + 1) ** 2)
            self.assertEqual(order(u, v), compare_asked(u, v))

    def test_small_numbers(self):
        numbers = Numbers(71)
        for _ in range(300):
            u = [numbers.below(16) for _ in range(numbers.below(20))]
            v = [numbers.below(16) for _ in range(numbers.below(20))]
            self.assertEqual(order(u, v), compare_asked(u, v))

    def test_any_numbers_at_all(self):
        numbers = Numbers(73)
        for _ in range(60):
            u = [numbers.below(GREATEST_NUMBER + 1) for _ in range(numbers.below(7))]
            v = [numbers.below(GREATEST_NUMBER + 1) for _ in range(numbers.below(7))]
            self.assertEqual(order(u, v), compare_asked(u, v))


if __name__ == "__main__":
    unittest.main()
