import unittest

from lines import MIXED, answers_of, begin, by, cut, digits_of, laid, last_answer, lay, row, told

NUMBERS = (1, 5, 10, 36, 99, 407, 1000, 58213, 999999, 12345678, 99999999)


class ByTest(unittest.TestCase):
    def test_one_digit(self):
        self.assertEqual(last_answer(laid(36), by(4)), [3, 1, 4, 4, 3, 1, 4, 4])

    def test_several_digits(self):
        self.assertEqual(
            last_answer(laid(36), by(2, 5, 9)),
            [4, 9, 3, 2, 4, 2, 7, 2, 3, 1, 8, 0, 3, 3, 2, 4])

    def test_eight_digits(self):
        self.assertEqual(
            last_answer(laid(99999999), by(*[9] * 8)),
            [16, 9, 9, 9, 9, 9, 9, 9, 8, 0, 0, 0, 0, 0, 0, 0, 1] + [9, 8, 9, 9, 9, 9, 9, 9, 9, 1] * 8)

    def test_the_product_where_nothing_is_flawed(self):
        for first in NUMBERS:
            for second in NUMBERS:
                rows = [number for digit in digits_of(second) for number in told(first * digit)]
                self.assertEqual(last_answer(laid(first), by(*digits_of(second))), told(first * second) + rows)

    def test_noughts_ahead_and_among_and_behind(self):
        self.assertEqual(
            last_answer(laid(36), by(0, 0, 2, 0, 1, 0)),
            [5, 7, 2, 3, 6, 0, 1, 0, 1, 0, 2, 7, 2, 1, 0, 2, 3, 6, 1, 0])

    def test_by_nought(self):
        self.assertEqual(last_answer(laid(36), by(0)), [1, 0, 1, 0])
        self.assertEqual(last_answer(laid(36), by(0, 0)), [1, 0, 1, 0, 1, 0])

    def test_nought_laid(self):
        self.assertEqual(last_answer(laid(0), by(7, 8)), [1, 0, 1, 0, 1, 0])

    def test_flaws_in_a_row_that_is_read(self):
        told = answers_of(begin(*MIXED), lay(3, 6), cut(0, 2, 4, 99), cut(1, 1, 5, 0), by(4, 5), by(5, 4), by(3))
        self.assertEqual(told[4:], [
            [5, 1, 0, 2, 9, 0, 4, 1, 0, 1, 4, 3, 1, 5, 0],
            [4, 2, 5, 1, 4, 3, 1, 5, 0, 4, 1, 0, 1, 4],
            [3, 1, 0, 8, 3, 1, 0, 8]])

    def test_flaws_elsewhere_do_not_matter(self):
        told = last_answer(begin(*MIXED), lay(3, 6), cut(0, 2, 5, 99), cut(0, 1, 4, 99), by(4))
        self.assertEqual(told, [3, 1, 4, 4, 3, 1, 4, 4])

    def test_wrong_digits(self):
        for digits in ([], [1] * 9, [0] * 9, [1] * 20, [10], [1, 20]):
            self.assertEqual(last_answer(laid(36), by(*digits)), [-1])

    def test_nothing_laid(self):
        self.assertEqual(last_answer(by(1)), [-6])
        self.assertEqual(last_answer(begin(*MIXED), by(0)), [-6])
        self.assertEqual(last_answer(begin(*MIXED), by(*[9] * 8)), [-6])

    def test_wrong_digits_come_first(self):
        for digits in ([], [1] * 9, [10]):
            self.assertEqual(last_answer(by(*digits)), [-1])
            self.assertEqual(last_answer(begin(*MIXED), by(*digits)), [-1])

    def test_what_is_laid_stays(self):
        told = answers_of(laid(36), by(2, 5), row(1), by(2, 5))
        self.assertEqual(told[3], [2, 3, 6, 2, 3, 6])
        self.assertEqual(told[4], told[2])


if __name__ == "__main__":
    unittest.main()
