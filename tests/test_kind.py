"""kind: n's kind s, without a square factor above 1, and the c above 0 with n = c c s."""

import unittest
from math import isqrt

from tests.helper import GREATEST_NUMBER, Numbers, kind, kinds_of


def has_square_factor(s):
    return any(s % (c * c) == 0 for c in range(2, isqrt(s) + 1))


class OrdinaryNumbers(unittest.TestCase):
    def test_small_numbers(self):
        told = [kind(n)[1:] for n in range(1, 19)]
        self.assertEqual(told, [[1, 1], [2, 1], [3, 1], [1, 2], [5, 1], [6, 1], [7, 1], [2, 2], [1, 3], [10, 1], [11, 1],
                                [3, 2], [13, 1], [14, 1], [15, 1], [1, 4], [17, 1], [2, 3]])

    def test_1(self):
        self.assertEqual(kind(1), [0, 1, 1])

    def test_primes(self):
        for n in (2, 3, 5, 7, 97, 65537, 5779, 1000003, 33538037):
            self.assertEqual(kind(n), [0, n, 1])

    def test_products_of_primes_that_differ(self):
        for n in (6, 30, 210, 2310, 30030, 510510, 9699690, 2 * 5783, 5741 * 5779, 3 * 11179337, 4093 * 8191):
            self.assertEqual(kind(n), [0, n, 1])

    def test_squares(self):
        for c in list(range(1, 100)) + [1024, 4093, 4096, 5040, 5779, 5790, 5791]:
            self.assertEqual(kind(c * c), [0, 1, c])

    def test_twice_a_square(self):
        for c in list(range(1, 100)) + [2048, 4093, 4095]:
            self.assertEqual(kind(2 * c * c), [0, 2, c])

    def test_prime_powers(self):
        for n, s, c in ((8, 2, 2), (16, 1, 4), (27, 3, 3), (32, 2, 4), (64, 1, 8), (81, 1, 9), (243, 3, 9), (125, 5, 5),
                        (2**24, 1, 2**12), (2**25 - 2**24, 1, 2**12), (2**23, 2, 2**11), (3**15, 3, 3**7), (7**8, 1, 7**4),
                        (5**9, 5, 5**4), (317**3, 317, 317)):
            self.assertEqual(kind(n), [0, s, c])

    def test_squares_of_products(self):
        for n, s, c in ((72, 2, 6), (36, 1, 6), (180, 5, 6), (900, 1, 30), (1800, 2, 30), (2**5 * 3**3 * 5, 30, 12),
                        (2 * 3**2 * 5**4 * 7, 14, 75), (6 * 2310**2, 6, 2310), (2**4 * 3**6 * 11, 11, 108)):
            self.assertEqual(kind(n), [0, s, c])


class GreatNumbers(unittest.TestCase):
    def test_greatest(self):
        # 33538050 = 2 4095 4095, 5791 5791 the greatest square below it
        self.assertEqual(kind(33538050), [0, 2, 4095])
        self.assertLess(5791 * 5791, 33538050)
        self.assertGreater(5792 * 5792, 33538050)
        self.assertEqual(kind(5791 * 5791), [0, 1, 5791])
        self.assertEqual(kind(33535681), [0, 1, 5791])

    def test_just_below_the_greatest(self):
        for n in range(GREATEST_NUMBER - 100, GREATEST_NUMBER + 1):
            answer = kind(n)
            self.assertEqual((len(answer), answer[0]), (3, 0))
            self.assertEqual(kinds_of([n]), {answer[1]: answer[2]})

    def test_square_factors_near_the_greatest(self):
        for s in (1, 2, 3, 5, 6, 7, 10, 11, 5783, 11177):
            c = isqrt(GREATEST_NUMBER // s)
            for factor in (c, c - 1):
                self.assertEqual(kind(s * factor * factor), [0, s, factor])


class ManyNumbers(unittest.TestCase):
    def check(self, n):
        answer = kind(n)
        self.assertEqual((len(answer), answer[0]), (3, 0))
        s, c = answer[1:]
        self.assertGreater(c, 0)
        self.assertEqual(c * c * s, n)
        self.assertFalse(has_square_factor(s), n)

    def test_all_from_the_first_on(self):
        for n in range(1, 4000):
            self.check(n)

    def test_any_at_all(self):
        numbers = Numbers(79)
        for _ in range(300):
            self.check(1 + numbers.below(GREATEST_NUMBER))

    def test_any_with_a_square_factor(self):
        numbers = Numbers(83)
        for _ in range(300):
            c = 2 + numbers.below(5790)
            self.check(c * c * (1 + numbers.below(GREATEST_NUMBER // (c * c))))


class Refusals(unittest.TestCase):
    def test_there_is_none(self):
        self.assertEqual(kind(0), [-5])

    def test_too_great(self):
        self.assertEqual(kind(33538050)[0], 0)
        for n in (33538051, 33538052, 5792 * 5792, 2**26, 2**31, 2**32 - 2, 4294967295):
            self.assertEqual(kind(n), [-1])


if __name__ == "__main__":
    unittest.main()
