"""Which text is a drawing's: the kinds 1 to 6 of what isn't, at their edges on either side."""

import unittest
from fractions import Fraction

from tests.helper import Numbers, as_bytes, beyond, compare, is_drawing, length, sticks, text

LINE_0 = "sign A\n"


class TextCase(unittest.TestCase):
    def taken(self, letters):
        t = as_bytes(letters) if isinstance(letters, str) else letters
        self.assertTrue(is_drawing(t), letters)

    def not_taken(self, letters):
        t = as_bytes(letters) if isinstance(letters, str) else letters
        self.assertFalse(is_drawing(t), letters)
        self.assertEqual(length(1, 6, t), [-6])
        self.assertEqual(compare(1, 0, t), [-6])
        self.assertEqual(beyond(1, 0, 1, t), [-6])
        self.assertEqual(sticks(1, 1, t), [-6])


class Lines(TextCase):
    def test_ordinary(self):
        self.taken("sign A\nstroke 0,0 1,1\n")
        self.taken("sign Open24\nstroke 10,10 20,10 20,30\nstroke 0,0 0,9\nstroke 4095,0 4000,4095\n")

    def test_no_bytes_and_too_few_lines(self):
        self.not_taken("")
        self.not_taken("\n")
        self.not_taken("\n\n")
        self.not_taken("sign A\n")
        self.not_taken("sign A\n\n")
        self.not_taken("stroke 0,0 1,1\n")
        self.not_taken("\nsign A\nstroke 0,0 1,1\n")

    def test_last_byte_10(self):
        self.not_taken("sign A")
        self.not_taken("sign A\nstroke 0,0 1,1")
        self.not_taken("sign A\nstroke 0,0 1,1\nstroke 5,5 6,6")
        self.taken("sign A\nstroke 0,0 1,1\nstroke 5,5 6,6\n")

    def test_bytes_behind_the_last_byte_10(self):
        whole = "sign A\nstroke 0,0 1,1\n"
        for behind in ("\n", " ", "x", "\x00", "s", "stroke", " \n", "\r\n", "sign A\n"):
            self.not_taken(whole + behind)

    def test_empty_line_between(self):
        self.not_taken("sign A\n\nstroke 0,0 1,1\n")
        self.not_taken("sign A\nstroke 0,0 1,1\n\nstroke 5,5 6,6\n")

    def test_blanks(self):
        self.not_taken("sign  A\nstroke 0,0 1,1\n")
        self.not_taken("sign A \nstroke 0,0 1,1\n")
        self.not_taken(" sign A\nstroke 0,0 1,1\n")
        for line in ("stroke  0,0 1,1", "stroke 0,0  1,1", "stroke 0,0 1,1 ", " stroke 0,0 1,1", "stroke 0,0 1,1  ",
                     "stroke\t0,0 1,1", "stroke 0,0\t1,1", "stroke 0,0 1,1\r", "stroke 0 ,0 1,1", "stroke 0, 0 1,1",
                     "stroke0,0 1,1", "stroke 0,01,1", "stroke\x000,0 1,1", "stroke 0,0\xa01,1"):
            self.not_taken(LINE_0 + line + "\n")

    def test_first_words(self):
        for word in ("Sign", "SIGN", "sig", "signs", "sin", "stroke", "", "sign\x00", "tign"):
            self.not_taken(word + " A\nstroke 0,0 1,1\n")
        for word in ("Stroke", "STROKE", "strok", "strokes", "stoke", "sign", "", "stroke\x00", "0,0"):
            self.not_taken(LINE_0 + word + " 0,0 1,1\n")
        self.not_taken("sign A\nsign A\nstroke 0,0 1,1\n")
        self.not_taken("sign A\nstroke 0,0 1,1\nsign A\n")
        self.not_taken("sign A\nstroke 0,0 1,1\nstrike 5,5 6,6\n")


class Names(TextCase):
    def name(self, name):
        return "sign" + name + "\nstroke 0,0 1,1\n"

    def test_number_of_bytes(self):
        self.not_taken(self.name(""))
        self.not_taken(self.name(" "))
        for count in range(1, 13):
            self.taken(self.name(" " + "abcXYZ019mNo"[:count]))
        self.not_taken(self.name(" abcXYZ019mNop"))
        self.not_taken(self.name(" " + "a" * 14))
        self.not_taken(self.name(" " + "a" * 5000))

    def test_one_word(self):
        self.not_taken(self.name(" A B"))
        self.not_taken(self.name(" sign A"))

    def test_every_byte_as_a_sign(self):
        signs = as_bytes("ABCDEFGHIJKLMNOPQRSTUVWXYZabcdefghijklmnopqrstuvwxyz0123456789")
        for byte in range(256):
            alone = as_bytes("sign ") + [byte] + as_bytes("\nstroke 0,0 1,1\n")
            within = as_bytes("sign a") + [byte] + as_bytes("9\nstroke 0,0 1,1\n")
            for t in (alone, within):
                self.assertEqual(is_drawing(t), byte in signs, byte)


class Points(TextCase):
    def test_number_of_points(self):
        for count in (0, 1, 66, 67, 200):
            self.not_taken(LINE_0 + "stroke" + "".join(f" {x},0" for x in range(count)) + "\n")
        for count in (2, 3, 64, 65):
            self.taken(LINE_0 + "stroke" + "".join(f" {x},0" for x in range(count)) + "\n")
        self.not_taken(LINE_0 + "stroke \n")

    def test_one_point_too_few_in_a_later_line(self):
        self.not_taken(LINE_0 + "stroke 0,0 1,1\nstroke 5,5\n")
        self.not_taken(LINE_0 + "stroke 0,0 1,1\nstroke\n")

    def test_form(self):
        for word in ("", ",", "7", "7,", ",7", "7,,7", "7,7,7", "7,7,", ",7,7", "7.7", "7;7", "x,7", "7,y", "-7,7", "7,-7",
                     "+7,7", "7,+7", "7.0,7", "7e0,7", "0x7,7", "7_7,7", "(7,7)", "7,7\x00", "/,7", ":,7", "7,/", "7,:",
                     "\xb2,7", "7,\xb2", "7,1\n1"):
            self.not_taken(LINE_0 + "stroke " + word + " 9,9\n")
            self.not_taken(LINE_0 + "stroke 9,9 " + word + "\n")
            self.not_taken(LINE_0 + "stroke 9,9 1,30 " + word + " 50,8\n")
        self.taken(LINE_0 + "stroke 9,9 1,30 7,7 50,8\n")

    def test_every_byte_as_a_digit(self):
        digits = as_bytes("0123456789")
        for byte in range(256):
            self.assertEqual(is_drawing(as_bytes(LINE_0 + "stroke 5,1") + [byte] + as_bytes(" 4000,3\n")), byte in digits)
            self.assertEqual(is_drawing(as_bytes(LINE_0 + "stroke 1") + [byte] + as_bytes(",5 4000,3\n")), byte in digits)

    def test_needless_0s(self):
        for word in ("00,1", "1,00", "01,1", "1,01", "0000,1", "007,1", "1,04095", "04095,1", "1,0009"):
            self.not_taken(LINE_0 + "stroke " + word + " 9,8\n")
        for word in ("0,1", "1,0", "0,0", "10,1", "100,1", "1,1000", "4000,100", "4090,4005"):
            self.taken(LINE_0 + "stroke " + word + " 9,8\n")

    def test_digits_are_told_in_their_order(self):
        t = text([(1234, 5), (1234, 3210)], [(4067, 98), (1325, 98)])
        self.assertEqual(length(0b01, 0, t), [0, 3205])
        self.assertEqual(length(0b10, 0, t), [0, 2742])


class Coordinates(TextCase):
    def test_greatest(self):
        for number in ("4095", "4094", "3999", "999"):
            self.taken(LINE_0 + f"stroke {number},0 1,1\n")
            self.taken(LINE_0 + f"stroke 0,{number} 1,1\n")
            self.taken(LINE_0 + f"stroke 1,1 {number},{number}\n")
        for number in ("4096", "4097", "4100", "5000", "9999", "10000", "65536", "40950", "4294967296", "4294967297"):
            self.not_taken(LINE_0 + f"stroke {number},0 1,1\n")
            self.not_taken(LINE_0 + f"stroke 0,{number} 1,1\n")
            self.not_taken(LINE_0 + f"stroke 1,1 7,7 9,{number}\n")

    def test_many_thousand_digits(self):
        for count in (4299, 4300, 4301, 20000, 65500):
            for digit in "019":
                self.not_taken(LINE_0 + f"stroke 1,{digit * count} 2,2\n")
                self.not_taken(LINE_0 + f"stroke {digit * count},1 2,2\n")
        self.not_taken(LINE_0 + "stroke 1," + "1" * 20000 + "x 2,2\n")

    def test_point_that_is_the_one_before_it(self):
        self.not_taken(LINE_0 + "stroke 5,5 5,5\n")
        self.not_taken(LINE_0 + "stroke 5,5 6,6 6,6\n")
        self.not_taken(LINE_0 + "stroke 5,5 6,6 6,6 7,9\n")
        self.not_taken(LINE_0 + "stroke 0,0 1,1\nstroke 5,5 5,5\n")
        self.taken(LINE_0 + "stroke 5,5 5,6\n")
        self.taken(LINE_0 + "stroke 5,5 6,5\n")
        self.taken(LINE_0 + "stroke 5,5 6,6\nstroke 6,6 7,9\n")


class NumberOfPieces(TextCase):
    def row(self, count, y):
        return [(x, y) for x in range(count + 1)]

    def test_sixty_four_and_sixty_five(self):
        self.taken(text(self.row(64, 0)))
        self.not_taken(text(self.row(64, 0), self.row(1, 1)))
        self.taken(text(self.row(63, 0), self.row(1, 1)))
        self.not_taken(text(self.row(63, 0), self.row(2, 1)))
        self.taken(text(self.row(32, 0), self.row(32, 1)))
        self.not_taken(text(self.row(33, 0), self.row(32, 1)))
        self.not_taken(text(self.row(64, 0), self.row(64, 1)))

    def test_strokes_of_one_piece(self):
        strokes = [self.row(1, y) for y in range(65)]
        self.taken(text(*strokes[:63]))
        self.taken(text(*strokes[:64]))
        self.not_taken(text(*strokes))


def meet_badly_slowly(first, second):
    """By the fractions at which the two lines share points, as the document tells it."""
    (px, py), (qx, qy) = first
    (rx, ry), (wx, wy) = second
    dx, dy, ex, ey = qx - px, qy - py, wx - rx, wy - ry
    det = dx * ey - dy * ex
    if det != 0:
        at_first = Fraction((rx - px) * ey - (ry - py) * ex, det)
        at_second = Fraction((rx - px) * dy - (ry - py) * dx, det)
        if not (0 <= at_first <= 1 and 0 <= at_second <= 1):
            return False
        return not (at_first in (0, 1) and at_second in (0, 1))
    if (rx - px) * dy != (ry - py) * dx:
        return False
    ends = [Fraction((x - px) * dx + (y - py) * dy, dx * dx + dy * dy) for x, y in second]
    return max(0, min(ends)) < min(1, max(ends))


class BadMeetings(TextCase):
    def pair(self, first, second, bad):
        for one, other in ((first, second), (second, first)):
            for way in (1, -1):
                t = text(one, other[::way])
                self.assertEqual(is_drawing(t), not bad, (one, other[::way]))
                t = text([(4000, 0), (4095, 0)], one[::way], other)
                self.assertEqual(is_drawing(t), not bad, (one[::way], other))

    def test_crossing(self):
        self.pair([(0, 0), (10, 10)], [(0, 10), (10, 0)], True)
        self.pair([(0, 5), (10, 5)], [(3, 0), (3, 10)], True)
        self.pair([(0, 5), (10, 5)], [(11, 0), (11, 10)], False)
        self.pair([(0, 5), (10, 5)], [(5, 6), (5, 10)], False)

    def test_crossing_without_whole_coordinates(self):
        self.pair([(0, 0), (1, 1)], [(0, 1), (1, 0)], True)
        self.pair([(0, 0), (3, 1)], [(1, 1), (2, 0)], True)
        self.pair([(0, 0), (4095, 4094)], [(1, 0), (4094, 4094)], True)
        self.pair([(0, 0), (4095, 4094)], [(2047, 2047), (2048, 2046)], True)
        self.pair([(0, 0), (4095, 4094)], [(2047, 2047), (2048, 2048)], False)
        self.pair([(0, 0), (4095, 4094)], [(1, 0), (4094, 4092)], False)

    def test_lying_over_one_another(self):
        self.pair([(0, 0), (10, 0)], [(5, 0), (15, 0)], True)
        self.pair([(0, 0), (10, 0)], [(3, 0), (7, 0)], True)
        self.pair([(0, 0), (10, 0)], [(0, 0), (7, 0)], True)
        self.pair([(0, 0), (10, 0)], [(3, 0), (10, 0)], True)
        self.pair([(2, 1), (8, 4)], [(4, 2), (10, 5)], True)
        self.pair([(0, 9), (0, 3)], [(0, 4), (0, 0)], True)

    def test_on_one_line_apart_or_end_to_end(self):
        self.pair([(0, 0), (10, 0)], [(11, 0), (15, 0)], False)
        self.pair([(0, 0), (10, 0)], [(10, 0), (15, 0)], False)
        self.pair([(2, 1), (8, 4)], [(8, 4), (10, 5)], False)
        self.pair([(2, 1), (8, 4)], [(10, 5), (12, 6)], False)
        self.pair([(0, 0), (10, 0)], [(0, 1), (10, 1)], False)

    def test_end_in_the_midst(self):
        self.pair([(0, 0), (10, 0)], [(5, 0), (5, 5)], True)
        self.pair([(0, 0), (10, 0)], [(5, 1), (5, 5)], False)
        self.pair([(0, 0), (9, 6)], [(3, 2), (4, 4095)], True)
        self.pair([(0, 0), (9, 6)], [(3, 3), (4, 4095)], False)
        self.pair([(0, 0), (4094, 4092)], [(2047, 2046), (0, 4095)], True)
        self.pair([(0, 0), (4094, 4092)], [(2047, 2047), (0, 4095)], False)

    def test_same_two_ends(self):
        self.pair([(3, 4), (8, 9)], [(3, 4), (8, 9)], True)
        self.pair([(3, 4), (8, 9)], [(8, 9), (3, 4)], True)
        self.not_taken(LINE_0 + "stroke 3,4 8,9 3,4\n")

    def test_sharing_just_an_end_of_both(self):
        self.pair([(5, 5), (9, 9)], [(5, 5), (9, 8)], False)
        self.pair([(5, 5), (9, 9)], [(0, 0), (5, 5)], False)
        self.pair([(5, 5), (9, 9)], [(9, 9), (5, 6)], False)
        self.taken(LINE_0 + "stroke 0,0 5,0 5,5 0,5 0,0\n")
        self.taken(LINE_0 + "stroke 0,0 5,0 0,5 0,0\nstroke 5,0 5,5 0,5\n")

    def test_within_one_line(self):
        self.not_taken(LINE_0 + "stroke 0,0 10,0 5,0\n")
        self.not_taken(LINE_0 + "stroke 0,0 10,0 10,5 5,5 5,0\n")
        self.not_taken(LINE_0 + "stroke 0,0 10,0 10,5 5,5 5,4095 5,4094 6,4095\n")
        self.not_taken(LINE_0 + "stroke 0,0 10,0 10,5 5,5 6,0\n")
        self.taken(LINE_0 + "stroke 0,0 10,0 10,5 5,5 5,1\n")

    def test_with_a_piece_of_any_line_before(self):
        strokes = [[(0, 10 * y), (100, 10 * y)] for y in range(20)]
        self.taken(text(*strokes))
        for y in range(20):
            self.not_taken(text(*strokes, [(50, 10 * y), (50, 10 * y + 1)]))
            self.taken(text(*strokes, [(50, 10 * y + 1), (50, 10 * y + 2)]))

    def test_all_pieces_on_a_small_grid(self):
        points = [(x, y) for x in range(4) for y in range(4)]
        pieces = [[p, q] for p in points for q in points if p < q]
        for i, first in enumerate(pieces):
            for j, second in enumerate(pieces[:i + 1]):
                one = first[::-1] if (i + j) % 2 else first
                other = second[::-1] if (i + j) % 3 else second
                bad = meet_badly_slowly(first, second)
                self.assertEqual(length(0, 0, text(one, other)), [-6] if bad else [0, 0], (one, other))

    def test_any_pieces_at_all(self):
        numbers = Numbers(17)
        for size in (8, 64, 4096):
            for _ in range(300):
                p, q, r = [(numbers.below(size), numbers.below(size)) for _ in range(3)]
                w = (min(r[0] + numbers.below(size), 4095), min(r[1] + numbers.below(size), 4095))
                if p != q and r != w:
                    bad = meet_badly_slowly((p, q), (r, w))
                    self.assertEqual(length(0, 0, text([p, q], [r, w])), [-6] if bad else [0, 0], (p, q, r, w))


class Degrees(TextCase):
    AROUND = [(0, 0), (10, 0), (20, 0), (20, 10), (20, 20), (10, 20), (0, 20), (0, 10), (15, 20)]

    def test_eight_and_nine(self):
        strokes = [[(10, 10), p] for p in self.AROUND]
        self.taken(text(*strokes[:8]))
        self.not_taken(text(*strokes))
        self.taken(text(*strokes[1:]))

    def test_either_end_counts(self):
        strokes = [[(10, 10), p] if i % 2 else [p, (10, 10)] for i, p in enumerate(self.AROUND)]
        self.taken(text(*strokes[:8]))
        self.not_taken(text(*strokes))
        self.not_taken(text(*strokes[:8], strokes[8][::-1]))

    def test_strokes_that_go_on(self):
        through = [[self.AROUND[i], (10, 10), self.AROUND[i + 4]] for i in range(4)]
        self.taken(text(*through))
        self.not_taken(text(*through, [(15, 20), (10, 10)]))
        self.not_taken(text(*through, [(10, 10), (15, 20)]))
        self.not_taken(text(*through, [(15, 20), (10, 10), (15, 0)]))
        self.taken(text(*through, [(15, 20), (16, 20)]))

    def test_other_points_between(self):
        strokes = [[(10, 10), p] for p in self.AROUND]
        far = [[(100, 100), (100 + x, 100 + y)] for x, y in ((1, 0), (1, 1), (0, 1), (1, 2))]
        self.taken(text(*far, *strokes[:8]))
        self.not_taken(text(*strokes[:5], *far, *strokes[5:]))

    def test_eight_at_two_points(self):
        left = [[(0, 0), (1, y)] for y in range(8)]
        self.taken(text(*left))
        self.taken(text(*left, *[[(3, 0), (2, y)] for y in range(7)]))
        self.taken(text(*[[(3, 0), (2, y)] for y in range(8)], *left))
        self.not_taken(text(*left, [(0, 0), (0, 9)]))
        self.not_taken(text(*left, [(0, 9), (0, 0)]))


class Length(TextCase):
    def test_long_texts_are_gone_through_by_loops(self):
        for letters in ("\n", " ", ",", "0", "sign A\n", "stroke ", "0,0 ", "1,"):
            self.not_taken(LINE_0 + (letters * 65536)[:65000] + "\n")
            self.not_taken(LINE_0 + "stroke " + (letters * 65536)[:65000] + "\n")


if __name__ == "__main__":
    unittest.main()
