import unittest

from lines import MIXED, answers_of, begin, cut, last_answer, lay, row


class CutTest(unittest.TestCase):
    def test_each_new_flaw_is_counted(self):
        told = answers_of(begin(*MIXED), cut(0, 0, 1, 2), cut(0, 0, 2, 3), cut(0, 1, 1, 3), cut(1, 0, 1, 4))
        self.assertEqual(told, [[0], [1], [2], [3], [4]])

    def test_a_flaw_that_is_cut_again_counts_once(self):
        told = answers_of(begin(*MIXED), lay(1), cut(0, 0, 1, 2), cut(0, 0, 1, 3), row(1), cut(0, 0, 1, 3))
        self.assertEqual(told[2:], [[1], [1], [1, 3, 1, 3], [1]])

    def test_k_times_the_faces_digit_is_no_flaw(self):
        told = answers_of(begin(*MIXED), cut(1, 3, 9, 72), cut(0, 0, 1, 1), cut(2, 1, 5, 0))
        self.assertEqual(told[1:], [[0], [0], [0]])

    def test_k_times_the_faces_digit_again_mends_the_flaw(self):
        told = answers_of(
            begin(*MIXED), lay(7), cut(1, 2, 5, 99), cut(0, 0, 1, 9), row(5), cut(1, 2, 5, 35), row(5))
        self.assertEqual(told[2:], [[1], [2], [1, 99, 2, 9, 9], [1], [1, 35, 2, 3, 5]])

    def test_nought_may_be_a_flaw(self):
        told = answers_of(begin(*MIXED), lay(7), cut(1, 2, 5, 0), row(5))
        self.assertEqual(told[2:], [[1], [1, 0, 1, 0]])

    def test_at_the_bounds(self):
        told = answers_of(begin(*MIXED), cut(0, 0, 1, 0), cut(3, 3, 9, 99), cut(0, 3, 9, 0), cut(3, 0, 1, 99))
        self.assertEqual(told, [[0], [1], [2], [3], [4]])

    def test_beyond_the_bounds(self):
        refused = [
            cut(4, 0, 1, 0), cut(20, 0, 1, 0), cut(0, 4, 1, 0), cut(0, 9, 1, 0), cut(0, 0, 0, 5),
            cut(0, 0, 10, 0), cut(0, 0, 20, 0), cut(0, 0, 1, 100), cut(0, 0, 1, 200)]
        for call in refused:
            told = answers_of(begin(*MIXED), lay(3, 6), cut(0, 2, 4, 50), call, row(4), row(1), cut(3, 3, 9, 1))
            self.assertEqual(told[3:], [[-1], [2, 50, 24, 3, 5, 2, 4], [2, 3, 6, 2, 3, 6], [2]])

    def test_the_rods_of_the_box_that_is_there(self):
        told = answers_of(begin(*MIXED[:1]), cut(0, 0, 1, 5), cut(1, 0, 1, 5), begin(*MIXED), cut(1, 0, 1, 4))
        self.assertEqual(told, [[0], [1], [-1], [0], [1]])

    def test_ahead_of_any_begin(self):
        self.assertEqual(answers_of(cut(0, 0, 1, 1), cut(0, 0, 1, 99)), [[-1], [-1]])

    def test_a_row_is_read_with_its_flaws_alone(self):
        flaws = [cut(0, 2, 4, 50), cut(1, 1, 4, 9), cut(0, 2, 5, 51), cut(0, 1, 4, 52), cut(3, 3, 4, 53)]
        told = answers_of(begin(*MIXED), *flaws, lay(3, 6), row(4), row(5), row(6), lay(4, 6), row(4))
        self.assertEqual(told[7:], [
            [2, 50, 9, 3, 5, 0, 9], [2, 51, 30, 3, 5, 4, 0], [2, 18, 36, 3, 2, 1, 6],
            [0, 0, 3, 1, 1], [2, 16, 9, 3, 1, 6, 9]])

    def test_a_flaw_in_what_is_laid_already(self):
        told = answers_of(begin(*MIXED), lay(3, 6), row(1), cut(0, 2, 1, 8), row(1), cut(1, 1, 1, 7), row(1))
        self.assertEqual(told[2:], [
            [2, 3, 6, 2, 3, 6], [1], [2, 8, 6, 2, 8, 6], [2], [2, 8, 7, 2, 8, 7]])

    def test_flaws_stay_when_another_number_is_laid(self):
        told = answers_of(begin(*MIXED), lay(3), cut(0, 2, 1, 8), lay(6), row(1), lay(3), row(1))
        self.assertEqual(told[4:], [[1, 6, 1, 6], [0, 0, 2], [1, 8, 1, 8]])

    def test_all_cells_may_be_flaws(self):
        calls = [cut(0, face, k, 99) for face in range(4) for k in range(1, 10)]
        told = answers_of(begin(*MIXED), *calls)
        self.assertEqual(told[1:], [[count] for count in range(1, 37)])


if __name__ == "__main__":
    unittest.main()
