"""Refusals, each alone and each ahead of those behind it: -2, -6, -1, -4, -8."""

import unittest

from tests.helper import DIRECTIONS, OTHER_KINDS, as_bytes, beyond, compare, is_drawing, lay, length, sticks, text

# Eleven kinds other than 1, then kind 1 twice, then the eleven again in other pieces.
ELEVEN = [DIRECTIONS[s] for s in OTHER_KINDS[:11]]
MANY_KINDS = lay(ELEVEN + [(1, 0), (0, 2)] + [(y, x) for x, y in ELEVEN])
ALL_ELEVEN = 2**11 - 1
ONES = 3 << 11
AGAIN = ALL_ELEVEN << 13
NO_SUCH_PIECE = 1 << 24

TOO_LONG = text([(0, 0), (1, 1)]) + as_bytes("x" * 65536)
NO_DRAWING = as_bytes("sign A\nstroke 0,0 1,1")


class TooLong(unittest.TestCase):
    def test_number_of_bytes(self):
        for sign in "\n x0":
            for count, asked in ((65535, -6), (65536, -6), (65537, -2), (65600, -2)):
                t = as_bytes(sign * count)
                self.assertEqual(length(0, 0, t), [asked])
                self.assertEqual(compare(0, 0, t), [asked])
                self.assertEqual(beyond(0, 0, 1, t), [asked])
                self.assertEqual(sticks(0, 1, t), [asked])

    def test_a_drawing_in_front_does_not_help(self):
        front = text([(0, 0), (1, 1)])
        for count, asked in ((65537, -2), (65536, -6)):
            t = front + [10] * (count - len(front))
            self.assertEqual(length(1, 0, t), [asked])
            self.assertEqual(compare(1, 1, t), [asked])
            self.assertEqual(beyond(1, 1, 1, t), [asked])
            self.assertEqual(sticks(1, 1, t), [asked])

    def test_ahead_of_the_others(self):
        self.assertEqual(length(2**64 - 1, 2**32 - 1, TOO_LONG), [-2])
        self.assertEqual(length(0, 7, TOO_LONG), [-2])
        self.assertEqual(length(2, 0, TOO_LONG), [-2])
        self.assertEqual(compare(2, 0, TOO_LONG), [-2])
        self.assertEqual(compare(0, 2, TOO_LONG), [-2])
        self.assertEqual(beyond(0, 0, 0, TOO_LONG), [-2])
        self.assertEqual(beyond(2, 0, 1, TOO_LONG), [-2])
        self.assertEqual(beyond(2**64 - 1, 2**64 - 1, 0, TOO_LONG), [-2])
        self.assertEqual(sticks(0, 0, TOO_LONG), [-2])
        self.assertEqual(sticks(2, 1, TOO_LONG), [-2])
        self.assertEqual(sticks(2**64 - 1, 0, TOO_LONG), [-2])


class NoDrawing(unittest.TestCase):
    def test_alone(self):
        self.assertEqual(length(1, 0, NO_DRAWING), [-6])
        self.assertEqual(compare(1, 1, NO_DRAWING), [-6])
        self.assertEqual(beyond(1, 1, 1, NO_DRAWING), [-6])
        self.assertEqual(sticks(1, 1, NO_DRAWING), [-6])
        self.assertFalse(is_drawing(NO_DRAWING))

    def test_ahead_of_the_others(self):
        self.assertEqual(length(1, 7, NO_DRAWING), [-6])
        self.assertEqual(length(2, 6, NO_DRAWING), [-6])
        self.assertEqual(length(2**64 - 1, 2**32 - 1, NO_DRAWING), [-6])
        self.assertEqual(compare(2, 1, NO_DRAWING), [-6])
        self.assertEqual(compare(1, 2, NO_DRAWING), [-6])
        self.assertEqual(length(ALL_ELEVEN, 0, MANY_KINDS[:-1]), [-6])
        self.assertEqual(compare(ALL_ELEVEN, 0, MANY_KINDS[:-1]), [-6])
        self.assertEqual(beyond(1, 0, 0, NO_DRAWING), [-6])
        self.assertEqual(beyond(2, 0, 1, NO_DRAWING), [-6])
        self.assertEqual(beyond(2**64 - 1, 0, 0, NO_DRAWING), [-6])
        self.assertEqual(beyond(ALL_ELEVEN, 0, 1, MANY_KINDS[:-1]), [-6])
        self.assertEqual(sticks(1, 0, NO_DRAWING), [-6])
        self.assertEqual(sticks(2, 1, NO_DRAWING), [-6])
        self.assertEqual(sticks(2**64 - 1, 0, NO_DRAWING), [-6])
        self.assertEqual(sticks(ALL_ELEVEN, 1, MANY_KINDS[:-1]), [-6])


class OutOfRange(unittest.TestCase):
    def test_k(self):
        t = text([(0, 0), (3, 4)])
        self.assertEqual(length(1, 6, t), [0, 5000000])
        for k in (7, 8, 64, 2**31, 2**32 - 1):
            self.assertEqual(length(1, k, t), [-1])
            self.assertEqual(length(0, k, t), [-1])

    def test_d(self):
        t = text([(0, 0), (3, 4)])
        for a in (0, 1):
            for c in (0, 1, 2**32, 2**64 - 1):
                self.assertEqual(beyond(a, c, 0, t), [-1])
            self.assertEqual(sticks(a, 0, t), [-1])
        for d in (1, 2**32 - 1, 2**32, 2**64 - 1):
            self.assertEqual(beyond(1, 0, d, t), [1])
        for d in (1, 5, 2**32 - 1):
            self.assertEqual(sticks(1, d, t), [0, 5 if d == 1 else 1])

    def test_ahead_of_the_others(self):
        for a in (NO_SUCH_PIECE, ALL_ELEVEN, NO_SUCH_PIECE | ALL_ELEVEN):
            self.assertEqual(beyond(a, 0, 0, MANY_KINDS), [-1])
            self.assertEqual(beyond(a, 2**64 - 1, 0, MANY_KINDS), [-1])
            self.assertEqual(sticks(a, 0, MANY_KINDS), [-1])
        self.assertEqual(length(NO_SUCH_PIECE, 7, MANY_KINDS), [-1])
        self.assertEqual(length(ALL_ELEVEN, 7, MANY_KINDS), [-1])
        self.assertEqual(length(NO_SUCH_PIECE | ALL_ELEVEN, 7, MANY_KINDS), [-1])


class NoSuchPiece(unittest.TestCase):
    def test_one_piece_more_than_there_are(self):
        for count in (1, 2, 31, 32, 33, 62, 63, 64):
            t = text([(x, 0) for x in range(count + 1)])
            self.assertEqual(length(1 << (count - 1), 0, t), [0, 1])
            self.assertEqual(length((1 << count) - 1, 0, t), [0, count])
            self.assertEqual(compare(1 << (count - 1), 1, t), [0])
            self.assertEqual(compare(1, 1 << (count - 1), t), [0])
            self.assertEqual(beyond(1 << (count - 1), 1, 1, t), [0])
            self.assertEqual(beyond((1 << count) - 1, 2 * count - 1, 2, t), [1])
            self.assertEqual(sticks(1 << (count - 1), 1, t), [0, 1])
            self.assertEqual(sticks((1 << count) - 1, 1, t), [0, count])
            for i in [piece for piece in (count, 63) if count <= piece < 64]:
                self.assertEqual(length(1 << i, 0, t), [-4])
                self.assertEqual(length((1 << i) + 1, 6, t), [-4])
                self.assertEqual(compare(1 << i, 1, t), [-4])
                self.assertEqual(compare(1, 1 << i, t), [-4])
                self.assertEqual(compare(1 << i, 1 << i, t), [-4])
                for a in (1 << i, (1 << i) + 1):
                    self.assertEqual(beyond(a, 0, 1, t), [-4])
                    self.assertEqual(beyond(a, 2**64 - 1, 2**64 - 1, t), [-4])
                    self.assertEqual(sticks(a, 1, t), [-4])
                    self.assertEqual(sticks(a, 2**32 - 1, t), [-4])

    def test_all_sets_of_sixty_four_pieces(self):
        t = text([(x, 0) for x in range(65)])
        self.assertEqual(length(2**64 - 1, 0, t), [0, 64])
        self.assertEqual(compare(2**64 - 1, 2**63, t), [2])
        self.assertEqual(compare(2**63, 2**64 - 1, t), [1])

    def test_pieces_of_all_strokes_count(self):
        t = text([(0, 0), (1, 0), (1, 1)], [(5, 5), (6, 6)])
        self.assertEqual(length(0b100, 1, t), [0, 14])
        self.assertEqual(length(0b1000, 1, t), [-4])
        self.assertEqual(beyond(0b100, 7, 5, t), [1])
        self.assertEqual(beyond(0b1000, 7, 5, t), [-4])
        self.assertEqual(sticks(0b100, 1, t), [0, 2])
        self.assertEqual(sticks(0b1000, 1, t), [-4])

    def test_ahead_of_too_many_kinds(self):
        self.assertEqual(length(ALL_ELEVEN, 0, MANY_KINDS), [-8])
        self.assertEqual(length(NO_SUCH_PIECE | ALL_ELEVEN, 0, MANY_KINDS), [-4])
        self.assertEqual(beyond(ALL_ELEVEN, 0, 1, MANY_KINDS), [-8])
        self.assertEqual(beyond(NO_SUCH_PIECE | ALL_ELEVEN, 0, 1, MANY_KINDS), [-4])
        self.assertEqual(sticks(ALL_ELEVEN, 1, MANY_KINDS), [-8])
        self.assertEqual(sticks(NO_SUCH_PIECE | ALL_ELEVEN, 1, MANY_KINDS), [-4])
        self.assertEqual(compare(ALL_ELEVEN, 0, MANY_KINDS), [-8])
        self.assertEqual(compare(NO_SUCH_PIECE | ALL_ELEVEN, 0, MANY_KINDS), [-4])
        self.assertEqual(compare(ALL_ELEVEN, NO_SUCH_PIECE, MANY_KINDS), [-4])
        self.assertEqual(compare(NO_SUCH_PIECE, NO_SUCH_PIECE | ALL_ELEVEN, MANY_KINDS), [-4])


class TooManyKinds(unittest.TestCase):
    def test_ten_are_answered_and_eleven_refused(self):
        for i in range(11):
            ten = ALL_ELEVEN & ~(1 << i)
            self.assertEqual(length(ten, 0, MANY_KINDS)[0], 0)
            self.assertEqual(compare(ten, 0, MANY_KINDS), [2])
            self.assertEqual(compare(0, ten, MANY_KINDS), [1])
            self.assertEqual(beyond(ten, 1, 1, MANY_KINDS), [1])
            self.assertEqual(beyond(ten, 2**64 - 1, 1, MANY_KINDS), [0])
            self.assertEqual(sticks(ten, 100, MANY_KINDS), [0, 1])
        for k in range(7):
            self.assertEqual(length(ALL_ELEVEN, k, MANY_KINDS), [-8])
        self.assertEqual(compare(ALL_ELEVEN, 0, MANY_KINDS), [-8])
        self.assertEqual(compare(0, ALL_ELEVEN, MANY_KINDS), [-8])
        for c, d in ((0, 1), (1, 1), (2**64 - 1, 1), (1, 2**64 - 1), (2**64 - 1, 2**64 - 1)):
            self.assertEqual(beyond(ALL_ELEVEN, c, d, MANY_KINDS), [-8])
        for d in (1, 100, 2**32 - 1):
            self.assertEqual(sticks(ALL_ELEVEN, d, MANY_KINDS), [-8])

    def test_ten_told(self):
        # The roots of 2, 5, 10, 13, 17, 26, 29, 34, 41 and 37, then two pieces of kind 1 that are 3 long together.
        self.assertEqual(length(ALL_ELEVEN >> 1, 6, MANY_KINDS), [0, 43342239])
        self.assertEqual(length(ALL_ELEVEN >> 1 | ONES, 6, MANY_KINDS), [0, 46342239])
        self.assertEqual(beyond(ALL_ELEVEN >> 1, 43342239, 10**6, MANY_KINDS), [1])
        self.assertEqual(beyond(ALL_ELEVEN >> 1, 43342240, 10**6, MANY_KINDS), [0])
        self.assertEqual(beyond(ALL_ELEVEN >> 1 | ONES, 46342239, 10**6, MANY_KINDS), [1])
        self.assertEqual(beyond(ALL_ELEVEN >> 1 | ONES, 46342240, 10**6, MANY_KINDS), [0])
        self.assertEqual(sticks(ALL_ELEVEN >> 1, 1, MANY_KINDS), [0, 44])
        self.assertEqual(sticks(ALL_ELEVEN >> 1 | ONES, 1, MANY_KINDS), [0, 47])

    def test_kind_1_does_not_count(self):
        self.assertEqual(length(ONES, 0, MANY_KINDS), [0, 3])
        self.assertEqual(length(ALL_ELEVEN | ONES, 0, MANY_KINDS), [-8])
        self.assertEqual(compare(ALL_ELEVEN >> 1 | ONES, 0, MANY_KINDS), [2])
        self.assertEqual(compare(ALL_ELEVEN >> 1, ONES, MANY_KINDS), [2])
        self.assertEqual(compare(ONES, ALL_ELEVEN >> 1, MANY_KINDS), [1])
        self.assertEqual(beyond(ONES, 3, 1, MANY_KINDS), [0])
        self.assertEqual(beyond(ALL_ELEVEN | ONES, 3, 1, MANY_KINDS), [-8])
        self.assertEqual(sticks(ONES, 1, MANY_KINDS), [0, 3])
        self.assertEqual(sticks(ALL_ELEVEN | ONES, 1, MANY_KINDS), [-8])

    def test_c_adds_no_kind_other_than_1(self):
        for c in (0, 1, 2, 3, 5, 50, 2**63):
            for d in (1, 2, 3, 50):
                asked = [1] if c < 43 * d else [0]
                self.assertEqual(beyond(ALL_ELEVEN >> 1, c, d, MANY_KINDS), asked)
                self.assertEqual(beyond(ALL_ELEVEN, c, d, MANY_KINDS), [-8])

    def test_more_pieces_of_ten_kinds(self):
        twice = ALL_ELEVEN >> 1 | AGAIN & AGAIN >> 1
        self.assertEqual(length(twice, 6, MANY_KINDS), [0, 86684478])
        self.assertEqual(beyond(twice, 86684478, 10**6, MANY_KINDS), [1])
        self.assertEqual(sticks(twice, 1, MANY_KINDS), [0, 87])

    def test_kinds_are_without_square_factors(self):
        # Eleven lengths of just one kind, 2.
        t = lay([(c, c) for c in range(1, 12)])
        self.assertEqual(length(ALL_ELEVEN, 0, t), [0, 93])
        # The root of 50 is of kind 2: with it there are ten kinds; that of 53 makes the eleventh.
        ten = [DIRECTIONS[s] for s in OTHER_KINDS[:10]]
        self.assertEqual(length(ALL_ELEVEN, 0, lay(ten + [(7, 1)])), [0, 50])
        self.assertEqual(length(ALL_ELEVEN, 0, lay(ten + [(7, 2)])), [-8])

    def test_of_compare_the_difference_counts(self):
        self.assertEqual(compare(ALL_ELEVEN, ALL_ELEVEN, MANY_KINDS), [0])
        self.assertEqual(compare(ALL_ELEVEN, AGAIN, MANY_KINDS), [0])
        self.assertEqual(compare(ALL_ELEVEN | ONES, AGAIN, MANY_KINDS), [2])
        for i in range(11):
            self.assertEqual(compare(ALL_ELEVEN, 1 << i, MANY_KINDS), [2])
            self.assertEqual(compare(ALL_ELEVEN, 1 << (i + 13), MANY_KINDS), [2])
            self.assertEqual(compare(1 << (i + 13), ALL_ELEVEN, MANY_KINDS), [1])
        self.assertEqual(compare(ALL_ELEVEN, ONES, MANY_KINDS), [-8])

    def test_kinds_of_either_set_count(self):
        self.assertEqual(compare(0b00000011111, 0b01111100000, MANY_KINDS), [1])
        self.assertEqual(compare(0b00000011111, 0b11111100000, MANY_KINDS), [-8])
        self.assertEqual(compare(0b11111100000, 0b00000011111, MANY_KINDS), [-8])

    def test_as_much_of_a_kind_in_other_pieces(self):
        # Kind 2 stands in a as the root of 8 and in b as twice that of 2, or just once.
        ten = [DIRECTIONS[s] for s in OTHER_KINDS[1:11]]
        t = lay([(2, 2)] + ten + [(1, 1), (1, 1)])
        self.assertEqual(compare(ALL_ELEVEN, 0b11 << 11, t), [2])
        self.assertEqual(compare(ALL_ELEVEN, 0b01 << 11, t), [-8])
        self.assertEqual(compare(ALL_ELEVEN, 0, t), [-8])

    def test_sixty_four_pieces_of_other_kinds(self):
        t = lay([(i + 1, 64) for i in range(64)])
        self.assertEqual(length(2**64 - 1, 0, t), [-8])
        self.assertEqual(compare(2**64 - 1, 0, t), [-8])
        self.assertEqual(beyond(2**64 - 1, 1, 1, t), [-8])
        self.assertEqual(sticks(2**64 - 1, 1, t), [-8])
        self.assertEqual(compare(2**64 - 1, 2**64 - 2, t), [2])


if __name__ == "__main__":
    unittest.main()
