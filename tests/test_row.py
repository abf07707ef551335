import unittest

from lines import MIXED, NINES, answers_of, begin, cut, laid, last_answer, lay, row, told


class RowTest(unittest.TestCase):
    def test_row_0_has_no_cells_and_reads_0(self):
        self.assertEqual(last_answer(laid(7), row(0)), [0, 1, 0])
        self.assertEqual(last_answer(laid(99999999), row(0)), [0, 1, 0])

    def test_rows_1_to_9(self):
        for k in range(1, 10):
            self.assertEqual(last_answer(laid(36), row(k)), [2, 3 * k, 6 * k] + told(36 * k))

    def test_rows_of_one_rod(self):
        for digit in range(10):
            for k in range(1, 10):
                self.assertEqual(last_answer(laid(digit), row(k)), [1, digit * k] + told(digit * k))

    def test_cells_from_the_left(self):
        self.assertEqual(last_answer(laid(425), row(6)), [3, 24, 12, 30, 4, 2, 5, 5, 0])

    def test_carrying_over_several_cells(self):
        self.assertEqual(last_answer(laid(99999999), row(9)), [8] + [81] * 8 + [9, 8, 9, 9, 9, 9, 9, 9, 9, 1])
        self.assertEqual(last_answer(laid(16667), row(6)), [5, 6, 36, 36, 36, 42, 6, 1, 0, 0, 0, 0, 2])

    def test_cells_up_to_99(self):
        calls = [cut(rod, 0, 5, 99) for rod in range(8)]
        self.assertEqual(last_answer(begin(*NINES), lay(*[9] * 8), *calls, row(5)), [8] + [99] * 8 + [
            10, 1, 0, 9, 9, 9, 9, 9, 9, 8, 9])

    def test_noughts_ahead_are_left_off(self):
        self.assertEqual(
            last_answer(begin((0, 0, 0, 0), (0, 0, 0, 0), (5, 5, 5, 5)), lay(0, 0, 5), row(1)),
            [3, 0, 0, 5, 1, 5])
        self.assertEqual(
            last_answer(begin((1, 2, 3, 4), (5, 6, 7, 8)), lay(1, 5), cut(0, 0, 3, 0), row(3)),
            [2, 0, 15, 2, 1, 5])

    def test_noughts_within_and_behind_are_kept(self):
        self.assertEqual(
            last_answer(begin((1, 1, 1, 1), (0, 0, 0, 0), (0, 0, 0, 0)), lay(1, 0, 0), row(2)),
            [3, 2, 0, 0, 3, 2, 0, 0])

    def test_a_row_that_reads_0(self):
        self.assertEqual(last_answer(laid(0), row(9)), [1, 0, 1, 0])
        self.assertEqual(last_answer(begin((0, 0, 0, 0), (0, 0, 0, 0)), lay(0, 0), row(3)), [2, 0, 0, 1, 0])
        self.assertEqual(last_answer(laid(7), cut(0, 0, 3, 0), row(3)), [1, 0, 1, 0])

    def test_k_above_9(self):
        for k in (10, 11, 20):
            self.assertEqual(last_answer(laid(36), row(k)), [-1])

    def test_nothing_laid(self):
        for k in range(10):
            self.assertEqual(last_answer(row(k)), [-6])
            self.assertEqual(last_answer(begin(*MIXED), row(k)), [-6])

    def test_k_above_9_comes_first(self):
        self.assertEqual(last_answer(row(10)), [-1])
        self.assertEqual(last_answer(begin(*MIXED), row(20)), [-1])

    def test_reading_changes_nothing(self):
        told = answers_of(laid(36), row(4), row(4), row(10), row(4))
        self.assertEqual(told[2:], [
            [2, 12, 24, 3, 1, 4, 4], [2, 12, 24, 3, 1, 4, 4], [-1], [2, 12, 24, 3, 1, 4, 4]])


if __name__ == "__main__":
    unittest.main()
