import unittest

from lines import MIXED, answers_of, begin, cut, lay, last_answer, row

ROD = (1, 2, 3, 4)


class BeginTest(unittest.TestCase):
    def assert_refused_and_nothing_changes(self, refused):
        told = answers_of(
            begin(*MIXED), lay(3, 6), cut(0, 2, 4, 50), refused,
            row(4), cut(3, 3, 9, 99), lay(9, 5), row(1))
        self.assertEqual(told, [
            [0], [0, 0, 2, 1, 1], [1], [-1],
            [2, 50, 24, 3, 5, 2, 4], [2], [0, 2, 0, 1, 0], [2, 9, 5, 2, 9, 5]])

    def test_one_rod(self):
        self.assertEqual(last_answer(begin(ROD)), [0])

    def test_twelve_rods(self):
        self.assertEqual(last_answer(begin(*[ROD] * 12)), [0])

    def test_each_number_of_rods_from_1_to_12(self):
        for count in range(1, 13):
            told = answers_of(begin(*[ROD] * count), cut(count - 1, 3, 1, 9), cut(count, 3, 1, 9))
            self.assertEqual(told, [[0], [1], [-1]])

    def test_no_rods_13_and_15_rods(self):
        for count in (0, 13, 14, 15):
            self.assertEqual(last_answer(begin(*[ROD] * count)), [-1])
            self.assert_refused_and_nothing_changes(begin(*[ROD] * count))

    def test_a_digit_above_9(self):
        for rods in ([(10, 0, 0, 0)], [(0, 0, 0, 10)], [ROD, (1, 20, 3, 4)], [ROD] * 11 + [(0, 0, 0, 11)]):
            self.assertEqual(last_answer(begin(*rods)), [-1])
            self.assert_refused_and_nothing_changes(begin(*rods))

    def test_digits_0_and_9_are_taken(self):
        self.assertEqual(last_answer(begin((0, 0, 0, 0), (9, 9, 9, 9))), [0])

    def test_a_refused_begin_leaves_a_line_without_a_box(self):
        self.assertEqual(answers_of(begin(), lay(1), cut(0, 0, 1, 5)), [[-1], [-3], [-1]])

    def test_a_second_begin_leaves_nothing_laid(self):
        told = answers_of(begin(*MIXED), lay(3, 6), begin(*MIXED), row(0))
        self.assertEqual(told[2:], [[0], [-6]])

    def test_a_second_begin_leaves_no_flaws(self):
        told = answers_of(
            begin(*MIXED), cut(0, 0, 1, 5), cut(0, 0, 2, 5), begin(*MIXED),
            lay(1), row(1), cut(0, 0, 3, 5))
        self.assertEqual(told[1:], [[1], [2], [0], [0, 0, 0], [1, 1, 1, 1], [1]])

    def test_a_second_begin_takes_its_own_box(self):
        told = answers_of(
            begin(*MIXED), begin((0, 0, 0, 8)), lay(3), lay(8), cut(1, 0, 1, 5), cut(0, 0, 1, 5))
        self.assertEqual(told, [[0], [0], [-3], [0, 0, 3], [-1], [1]])


if __name__ == "__main__":
    unittest.main()
