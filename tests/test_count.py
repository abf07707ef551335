import itertools
import unittest

from lines import MIXED, TWELVE, answers_of, begin, count, cut, drawn_rods, last_answer, lay, row, show


def counted(rods, n):
    """The answer of count, found by going through all rods and faces."""
    rows = set()
    for chosen in itertools.permutations(rods, n):
        rows.update(itertools.product(*chosen))
    return [len(rows)]


def counts(rods):
    """The answers of count for 1, 2 and 3 digits."""
    return [told[0] for told in answers_of(begin(*rods), count(1), count(2), count(3))[1:]]


class CountTest(unittest.TestCase):
    def test_one_rod(self):
        self.assertEqual(counts([(1, 2, 3, 4)]), [4, 0, 0])
        self.assertEqual(counts([(1, 2, 1, 2)]), [2, 0, 0])

    def test_two_rods(self):
        # 15 to 48 and 51 to 84.
        self.assertEqual(counts([(1, 2, 3, 4), (5, 6, 7, 8)]), [8, 32, 0])
        self.assertEqual(counts([(1, 2, 3, 4), (1, 2, 3, 4)]), [4, 16, 0])
        # 11, 12, 21, 13, 31, 23, 32
        self.assertEqual(counts([(1, 2, 2, 1), (1, 3, 3, 3)]), [3, 7, 0])

    def test_twelve_rods(self):
        self.assertEqual(counts(TWELVE), [10, 100, 1000])

    def test_alike_rods(self):
        self.assertEqual(counts([(1, 2, 3, 4)] * 12), [4, 16, 64])
        self.assertEqual(counts([(1, 2, 3, 4)] * 3), [4, 16, 64])

    def test_rods_with_one_digit_on_all_faces(self):
        self.assertEqual(counts([(7, 7, 7, 7)]), [1, 0, 0])
        self.assertEqual(counts([(7, 7, 7, 7)] * 12), [1, 1, 1])
        self.assertEqual(counts([(digit, digit, digit, digit) for digit in range(10)]), [10, 90, 720])
        self.assertEqual(counts([(1, 1, 1, 1), (1, 1, 1, 1), (2, 2, 2, 2)]), [2, 3, 3])

    def test_a_box_of_fewer_rods_than_digits(self):
        self.assertEqual(last_answer(begin((1, 2, 3, 4)), count(2)), [0])
        self.assertEqual(last_answer(begin((1, 2, 3, 4)), count(3)), [0])
        self.assertEqual(last_answer(begin((1, 2, 3, 4), (5, 6, 7, 8)), count(3)), [0])

    def test_ahead_of_any_begin(self):
        self.assertEqual(answers_of(count(1), count(2), count(3)), [[0], [0], [0]])

    def test_rows_with_noughts_ahead_are_counted(self):
        self.assertEqual(counts([(0, 0, 0, 0)] * 3), [1, 1, 1])
        self.assertEqual(counts([(0, 1, 0, 1)] * 3), [2, 4, 8])
        # 015 and the like: each order of the three rods.
        self.assertEqual(counts([(0, 0, 0, 0), (1, 1, 1, 1), (5, 5, 5, 5)]), [3, 6, 6])

    def test_a_row_counts_once_in_whatever_ways_it_can_be_laid(self):
        self.assertEqual(counts([(3, 3, 3, 4)] * 4), [2, 4, 8])

    def test_digits_that_need_the_same_rod(self):
        # 1 and 2 stand on rod 0 alone: no row has both of them, or one twice.
        self.assertEqual(counts([(1, 2, 2, 1), (3, 3, 3, 3), (3, 3, 3, 3)]), [3, 5, 6])

    def test_as_found_by_going_through_all_rods(self):
        for seed in range(60):
            rods = drawn_rods(seed, 1 + seed % 6, 3 + seed % 8)
            self.assertEqual(counts(rods), [counted(rods, n)[0] for n in (1, 2, 3)])
        for seed in range(3):
            rods = drawn_rods(seed, 12, 10)
            self.assertEqual(counts(rods), [counted(rods, n)[0] for n in (1, 2, 3)])

    def test_n_0_and_above_3(self):
        for n in (0, 4, 5, 20):
            self.assertEqual(last_answer(begin(*MIXED), count(n)), [-1])
            self.assertEqual(last_answer(count(n)), [-1])

    def test_flaws_and_what_is_laid_do_not_matter(self):
        flaws = [cut(rod, face, 1, 77) for rod in range(4) for face in range(4)]
        for n in (1, 2, 3):
            answer = last_answer(begin(*MIXED), count(n))
            self.assertEqual(last_answer(begin(*MIXED), *flaws, lay(3, 6, 9, 4), count(n)), answer)

    def test_nothing_changes(self):
        ahead = (begin(*MIXED), lay(3, 6), cut(0, 2, 4, 50))
        for n in (0, 1, 2, 3, 4):
            found = answers_of(*ahead, show(), row(4), count(n), show(), row(4), count(n))
            self.assertEqual(found[6:], found[3:6])

    def test_the_box_that_is_there(self):
        found = answers_of(begin(*MIXED), count(1), begin((7, 7, 7, 7)), count(1), begin(), count(1))
        self.assertEqual(found, [[0], [10], [0], [1], [-1], [1]])


if __name__ == "__main__":
    unittest.main()
