import itertools
import unittest

from lines import (
    MIXED, NINES, answers_of, begin, cut, drawn_numbers, drawn_rods, last_answer, lay, row)


def laid_plainly(rods, digits):
    """The answer of lay, found by going through all ways in their order."""
    for places in itertools.permutations(range(len(rods)), len(digits)):
        if all(digit in rods[rod] for rod, digit in zip(places, digits)):
            told = [0]
            for rod, digit in zip(places, digits):
                told += [rod, rods[rod].index(digit)]
            return told
    return [-3]


class LayTest(unittest.TestCase):
    def test_one_digit(self):
        self.assertEqual(last_answer(begin(*MIXED), lay(7)), [0, 1, 2])

    def test_eight_digits(self):
        rods = [(number, number, number, number) for number in range(8)]
        told = last_answer(begin(*rods), lay(7, 6, 5, 4, 3, 2, 1, 0))
        self.assertEqual(told, [0, 7, 0, 6, 0, 5, 0, 4, 0, 3, 0, 2, 0, 1, 0, 0, 0])

    def test_the_first_of_a_rods_faces_with_the_digit(self):
        self.assertEqual(last_answer(begin((1, 5, 5, 1)), lay(5)), [0, 0, 1])
        self.assertEqual(last_answer(begin((0, 1, 2, 2)), lay(2)), [0, 0, 2])
        self.assertEqual(last_answer(begin((1, 1, 1, 1)), lay(1)), [0, 0, 0])

    def test_the_least_rod_for_the_first_digit_then_for_the_second(self):
        told = last_answer(begin((0, 0, 0, 0), (1, 2, 3, 4), (2, 1, 3, 4), (1, 2, 0, 0)), lay(1, 2))
        self.assertEqual(told, [0, 1, 0, 2, 0])

    def test_each_digit_on_a_rod_of_its_own(self):
        self.assertEqual(last_answer(begin((1, 1, 2, 2), (1, 2, 1, 2)), lay(1, 1)), [0, 0, 0, 1, 0])
        self.assertEqual(last_answer(begin((1, 1, 2, 2)), lay(1, 2)), [-3])
        self.assertEqual(last_answer(begin(*NINES[:7]), lay(*[9] * 8)), [-3])

    def test_the_next_rod_where_the_least_leaves_a_later_digit_without_one(self):
        self.assertEqual(last_answer(begin((1, 2, 0, 0), (1, 3, 0, 0)), lay(1, 2)), [0, 1, 0, 0, 1])
        rods = [(1, 2, 3, 4), (1, 2, 3, 5), (1, 2, 6, 6), (1, 7, 7, 7)]
        self.assertEqual(last_answer(begin(*rods), lay(1, 2, 3, 4)), [0, 3, 0, 2, 1, 1, 2, 0, 3])

    def test_a_digit_that_no_rod_has(self):
        told = answers_of(begin((1, 2, 3, 4), (5, 6, 7, 8)), lay(9), lay(0), lay(1, 9), lay(9, 1))
        self.assertEqual(told, [[0], [-3], [-3], [-3], [-3]])

    def test_noughts_ahead_need_rods_too(self):
        self.assertEqual(last_answer(begin(*MIXED), lay(0, 5)), [0, 2, 1, 1, 0])
        self.assertEqual(last_answer(begin(*MIXED), lay(0, 0, 5)), [-3])

    def test_wrong_digits(self):
        for digits in ([], [9] * 9, [9] * 20, [10], [9, 20], [9, 9, 10]):
            self.assertEqual(last_answer(begin(*NINES), lay(*digits)), [-1])
            self.assertEqual(last_answer(lay(*digits)), [-1])

    def test_a_digit_above_9_comes_ahead_of_one_that_no_rod_has(self):
        self.assertEqual(last_answer(begin(*NINES), lay(1, 10)), [-1])
        self.assertEqual(last_answer(begin(*NINES), lay(*[1] * 9)), [-1])

    def test_ahead_of_any_begin(self):
        self.assertEqual(answers_of(lay(0), lay(1, 2), row(1)), [[-3], [-3], [-6]])

    def test_what_was_laid_stays_where_it_is_refused(self):
        told = answers_of(
            begin(*MIXED), lay(3, 6), lay(9, 9), row(1), lay(), row(1), lay(10), row(1),
            lay(1, 1, 1, 1, 1), row(1))
        self.assertEqual(told[2:], [
            [-3], [2, 3, 6, 2, 3, 6], [-1], [2, 3, 6, 2, 3, 6], [-1], [2, 3, 6, 2, 3, 6],
            [-3], [2, 3, 6, 2, 3, 6]])

    def test_laid_instead_of_what_was(self):
        told = answers_of(begin(*MIXED), lay(3, 6), lay(6), row(1), lay(4, 8, 2), row(1))
        self.assertEqual(told[2:], [[0, 1, 1], [1, 6, 1, 6], [0, 0, 3, 1, 3, 2, 3], [3, 4, 8, 2, 3, 4, 8, 2]])

    def test_flaws_change_no_faces_digit(self):
        told = answers_of(begin((1, 2, 3, 4)), cut(0, 0, 1, 7), lay(7), lay(1))
        self.assertEqual(told[2:], [[-3], [0, 0, 0]])

    def test_as_found_by_going_through_all_ways(self):
        for seed in range(300):
            count = 1 + seed % 6
            rods = drawn_rods(seed, count, 3 + seed % 5)
            digits = drawn_numbers(seed + 1000, 1 + seed % 5, 3 + seed % 5)
            self.assertEqual(last_answer(begin(*rods), lay(*digits)), laid_plainly(rods, digits))

    def test_alike_rods_are_not_gone_through_in_every_order(self):
        calls = [lay(1, 2, 3, 4, 1, 2, 3, 9)] * 59
        told = answers_of(begin(*[(1, 2, 3, 4)] * 12), *calls)
        self.assertEqual(told, [[0]] + [[-3]] * 59)


if __name__ == "__main__":
    unittest.main()
