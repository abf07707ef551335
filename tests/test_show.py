import unittest

from lines import MIXED, TWELVE, answers_of, begin, cut, last_answer, lay, row, show

MIXED_FACES = [1, 2, 3, 4, 5, 6, 7, 8, 9, 0, 1, 2, 3, 4, 5, 6]
AHEAD = (begin(*MIXED), lay(3, 6), cut(1, 3, 9, 5), cut(0, 2, 4, 50))
AHEAD_SHOWN = [4, *MIXED_FACES, 2, 1, 3, 9, 5, 0, 2, 4, 50, 2, 0, 2, 1, 1]


class ShowTest(unittest.TestCase):
    def test_ahead_of_any_begin(self):
        self.assertEqual(last_answer(show()), [0, 0, 0])

    def test_behind_begin(self):
        self.assertEqual(last_answer(begin((7, 0, 9, 9)), show()), [1, 7, 0, 9, 9, 0, 0])
        self.assertEqual(last_answer(begin(*MIXED), show()), [4, *MIXED_FACES, 0, 0])
        faces = [digit for rod in TWELVE for digit in rod]
        self.assertEqual(last_answer(begin(*TWELVE), show()), [12, *faces, 0, 0])

    def test_behind_lay(self):
        self.assertEqual(last_answer(begin(*MIXED), lay(9, 8, 3), show()), [
            4, *MIXED_FACES, 0, 3, 2, 0, 1, 3, 0, 2])
        self.assertEqual(last_answer(begin(*MIXED), lay(9, 8, 3), lay(4), show()), [
            4, *MIXED_FACES, 0, 1, 0, 3])

    def test_eight_digits_laid(self):
        told = last_answer(begin(*[(5, 0, 0, 9)] * 12), lay(9, 0, 9, 0, 9, 0, 9, 0), show())
        self.assertEqual(told, [12] + [5, 0, 0, 9] * 12 + [
            0, 8, 0, 3, 1, 1, 2, 3, 3, 1, 4, 3, 5, 1, 6, 3, 7, 1])

    def test_behind_cut(self):
        self.assertEqual(last_answer(begin((1, 2, 3, 4)), cut(0, 3, 9, 99), show()), [
            1, 1, 2, 3, 4, 1, 0, 3, 9, 99, 0])

    def test_all_of_it(self):
        self.assertEqual(last_answer(*AHEAD, show()), AHEAD_SHOWN)

    def test_all_cells_of_a_rod_may_be_flaws(self):
        cells = [(face, k) for face in range(4) for k in range(1, 10)]
        told = last_answer(begin((1, 2, 3, 4)), *[cut(0, face, k, 98) for face, k in cells], show())
        flaws = [part for face, k in cells for part in (0, face, k, 98)]
        self.assertEqual(told, [1, 1, 2, 3, 4, 36, *flaws, 0])

    def test_after_a_refused_begin(self):
        for refused in (begin(), begin(*[(1, 2, 3, 4)] * 13), begin((10, 1, 1, 1))):
            self.assertEqual(answers_of(*AHEAD, refused, show())[4:], [[-1], AHEAD_SHOWN])

    def test_after_a_refused_lay(self):
        for refused in (lay(), lay(10), lay(*[3] * 9)):
            self.assertEqual(answers_of(*AHEAD, refused, show())[4:], [[-1], AHEAD_SHOWN])
        for refused in (lay(9, 9), lay(0, 0), lay(1, 1, 1)):
            self.assertEqual(answers_of(*AHEAD, refused, show())[4:], [[-3], AHEAD_SHOWN])

    def test_after_a_refused_cut(self):
        for refused in (
                cut(4, 0, 1, 5), cut(0, 4, 1, 5), cut(0, 0, 0, 5), cut(0, 0, 10, 5), cut(0, 0, 1, 100),
                cut(1, 3, 9, 100), cut(1, 3, 9, 200)):
            self.assertEqual(answers_of(*AHEAD, refused, show())[4:], [[-1], AHEAD_SHOWN])

    def test_after_a_begin_that_is_taken(self):
        self.assertEqual(last_answer(*AHEAD, begin((7, 0, 9, 9)), show()), [1, 7, 0, 9, 9, 0, 0])
        self.assertEqual(last_answer(*AHEAD, begin(*MIXED), show()), [4, *MIXED_FACES, 0, 0])

    def test_nothing_changes(self):
        found = answers_of(*AHEAD, row(4), show(), row(4), show())
        self.assertEqual(found[4:6], found[6:])


class OrderOfFlawsTest(unittest.TestCase):
    def assert_order(self, cuts, flaws):
        told = last_answer(begin((1, 2, 3, 4), (5, 6, 7, 8)), *[cut(*numbers) for numbers in cuts], show())
        numbers = [number for flaw in flaws for number in flaw]
        self.assertEqual(told, [2, 1, 2, 3, 4, 5, 6, 7, 8, len(flaws), *numbers, 0])

    def test_in_the_order_in_which_they_were_cut(self):
        cuts = [(1, 0, 9, 1), (0, 3, 1, 2), (0, 0, 5, 3)]
        self.assert_order(cuts, cuts)

    def test_cut_again_with_another_number_it_goes_to_the_end(self):
        self.assert_order([(0, 0, 1, 2), (0, 0, 2, 3), (0, 0, 1, 4)], [(0, 0, 2, 3), (0, 0, 1, 4)])

    def test_cut_again_with_the_same_number_it_goes_to_the_end(self):
        self.assert_order([(0, 0, 1, 2), (0, 0, 2, 3), (0, 0, 1, 2)], [(0, 0, 2, 3), (0, 0, 1, 2)])

    def test_taken_back_it_is_gone(self):
        self.assert_order([(0, 0, 1, 2), (0, 0, 2, 3), (0, 0, 1, 1)], [(0, 0, 2, 3)])
        self.assert_order([(0, 0, 1, 2), (0, 0, 1, 1)], [])

    def test_taken_back_and_cut_again_it_goes_to_the_end(self):
        self.assert_order(
            [(0, 0, 1, 2), (0, 0, 2, 3), (0, 0, 1, 1), (0, 0, 1, 2)], [(0, 0, 2, 3), (0, 0, 1, 2)])

    def test_what_is_no_flaw_changes_no_order(self):
        cuts = [(0, 0, 1, 2), (0, 0, 2, 3)]
        self.assert_order(cuts + [(1, 3, 9, 72)], cuts)

    def test_a_refused_cut_leaves_the_order(self):
        cuts = [(0, 0, 1, 2), (0, 0, 2, 3)]
        self.assert_order(cuts + [(0, 0, 1, 100)], cuts)


if __name__ == "__main__":
    unittest.main()
