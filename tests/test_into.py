import unittest

from lines import MIXED, answers_of, begin, cut, digits_of, into, laid, last_answer, lay, row, told

NUMBERS = (1, 7, 10, 36, 99, 407, 1000, 58213, 12345678, 99999999)
PARTED = (0, 5, 36, 100, 719, 58213, 40000001, 1234567890123456, 9999999999999999)
# Laid 12; row 9, which is 108, reads 18.
ROW_9_READS_18 = begin((1, 1, 1, 1), (2, 2, 2, 2)) + lay(1, 2) + cut(0, 0, 9, 0)


class IntoTest(unittest.TestCase):
    def test_one_digit(self):
        self.assertEqual(last_answer(laid(3), into(8)), [1, 2, 1, 2])

    def test_several_digits(self):
        self.assertEqual(last_answer(laid(36), into(1, 0, 0, 0)), [2, 2, 7, 2, 2, 8])

    def test_sixteen_digits(self):
        self.assertEqual(last_answer(laid(9), into(*[9] * 16)), [16] + [1] * 16 + [1, 0])

    def test_quotient_and_remainder_where_nothing_is_flawed(self):
        for first in NUMBERS:
            for second in PARTED:
                parted = told(second // first) + told(second % first)
                self.assertEqual(last_answer(laid(first), into(*digits_of(second))), parted)

    def test_noughts_ahead(self):
        self.assertEqual(last_answer(laid(36), into(0, 0, 1, 0, 0)), [1, 2, 2, 2, 8])
        self.assertEqual(last_answer(laid(36), into(*[0] * 15, 7)), [1, 0, 1, 7])

    def test_noughts_within_and_behind_the_quotient(self):
        self.assertEqual(last_answer(laid(36), into(3, 6, 0, 3, 6, 0)), [5, 1, 0, 0, 1, 0, 1, 0])

    def test_a_quotient_of_0(self):
        self.assertEqual(last_answer(laid(36), into(3, 5)), [1, 0, 2, 3, 5])
        self.assertEqual(last_answer(laid(36), into(0)), [1, 0, 1, 0])
        self.assertEqual(last_answer(laid(36), into(0, 0)), [1, 0, 1, 0])

    def test_nought_laid_ahead(self):
        calls = begin((0, 0, 0, 0), (5, 5, 5, 5)) + lay(0, 5)
        self.assertEqual(last_answer(calls, into(1, 7)), [1, 3, 1, 2])

    def test_the_greatest_number_counts_not_the_greatest_reading(self):
        self.assertEqual(last_answer(ROW_9_READS_18, into(3, 0)), [1, 9, 2, 1, 2])

    def test_a_row_that_reads_too_much_is_passed_over(self):
        calls = laid(3) + cut(0, 0, 2, 50)
        self.assertEqual(last_answer(calls, into(7)), [1, 1, 1, 4])
        self.assertEqual(last_answer(calls, into(9)), [1, 3, 1, 0])

    def test_a_row_that_reads_just_what_there_is(self):
        self.assertEqual(last_answer(ROW_9_READS_18, into(1, 8)), [1, 9, 1, 0])
        self.assertEqual(last_answer(ROW_9_READS_18, into(1, 7)), [1, 1, 1, 5])

    def test_more_is_left_than_is_laid(self):
        self.assertEqual(last_answer(ROW_9_READS_18, into(9, 9)), [1, 9, 2, 8, 1])
        self.assertEqual(last_answer(ROW_9_READS_18, into(3, 0, 0)), [2, 9, 9, 3, 1, 0, 2])

    def test_what_is_left_grows_with_each_digit(self):
        calls = laid(1) + [number for k in range(2, 10) for number in cut(0, 0, k, 1)]
        self.assertEqual(
            last_answer(calls, into(*[9] * 16)),
            [16] + [9] * 16 + [16] + [8] * 16)

    def test_a_row_that_reads_0_with_a_flaw(self):
        for k in range(1, 10):
            self.assertEqual(last_answer(laid(7), cut(0, 0, k, 0), into(5, 0)), [-7])
            self.assertEqual(last_answer(laid(7), cut(0, 0, k, 0), into(0)), [-7])

    def test_nought_laid(self):
        self.assertEqual(last_answer(laid(0), into(5, 0)), [-7])
        self.assertEqual(last_answer(begin((0, 0, 0, 0), (0, 0, 0, 0)), lay(0, 0), into(0)), [-7])

    def test_nought_laid_and_all_rows_but_one_flawed(self):
        calls = [cut(0, 0, k, k) for k in range(1, 9)]
        self.assertEqual(last_answer(laid(0), *calls, into(5)), [-7])
        self.assertEqual(last_answer(laid(0), *calls, cut(0, 0, 9, 9), into(5)), [1, 5, 1, 0])

    def test_a_cell_of_0_in_a_row_that_reads_more_is_not_refused(self):
        self.assertEqual(last_answer(ROW_9_READS_18, into(5)), [1, 0, 1, 5])

    def test_wrong_digits(self):
        for digits in ([], [1] * 17, [0] * 17, [1] * 20, [10], [1, 20]):
            self.assertEqual(last_answer(laid(36), into(*digits)), [-1])

    def test_nothing_laid(self):
        self.assertEqual(last_answer(into(1)), [-6])
        self.assertEqual(last_answer(begin(*MIXED), into(0)), [-6])
        self.assertEqual(last_answer(begin((0, 0, 0, 0)), into(*[9] * 16)), [-6])

    def test_wrong_digits_come_first(self):
        for digits in ([], [1] * 17, [10]):
            self.assertEqual(last_answer(into(*digits)), [-1])
            self.assertEqual(last_answer(begin(*MIXED), into(*digits)), [-1])
            self.assertEqual(last_answer(laid(0), into(*digits)), [-1])

    def test_what_is_laid_stays(self):
        told = answers_of(laid(36), into(1, 0, 0), row(1), into(1, 0, 0))
        self.assertEqual(told[3], [2, 3, 6, 2, 3, 6])
        self.assertEqual(told[4], told[2])


if __name__ == "__main__":
    unittest.main()
