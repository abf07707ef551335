import itertools
import math
import unittest

from lines import (
    MIXED, TWELVE, answers_of, begin, cut, digits_of, drawn_numbers, drawn_rods, last_answer, lay, root, row, show,
    told)

# All that has to be laid for 16 nines has the digits 1, 8 and 9 alone.
ROOT_OF_NINES = [(1, 8, 9, 0)] * 8


def can_be_laid(rods, digits):
    """Whether, whatever digits are chosen, enough rods have one of them."""
    for many in range(1, len(set(digits)) + 1):
        for chosen in itertools.combinations(sorted(set(digits)), many):
            asked = [digit for digit in digits if digit in chosen]
            if len([rod for rod in rods if set(rod) & set(chosen)]) < len(asked):
                return False
    return True


def rooted(rods, number):
    """The answer of root, found by Python's own root."""
    whole = math.isqrt(number)
    digits = str(whole)
    for length in range(1, len(digits)):
        twice = 2 * int(digits[:length])
        if not can_be_laid(rods, digits_of(twice)):
            return [-3] + told(twice)
    return told(whole) + told(number - whole * whole)


class RootTest(unittest.TestCase):
    def test_an_odd_count_of_digits(self):
        self.assertEqual(last_answer(begin((2, 0, 0, 0)), root(1, 4, 4)), [2, 1, 2, 1, 0])
        self.assertEqual(last_answer(begin(*MIXED), root(1, 5, 1, 2, 9)), [3, 1, 2, 3, 1, 0])

    def test_an_even_count_of_digits(self):
        self.assertEqual(last_answer(begin((6, 0, 0, 0)), root(1, 0, 2, 4)), [2, 3, 2, 1, 0])
        self.assertEqual(last_answer(begin(*TWELVE), root(5, 4, 7, 6)), [2, 7, 4, 1, 0])

    def test_a_square_one_less_and_one_more(self):
        for number in (4, 10, 11, 12, 32, 74, 99, 100, 123, 316, 999, 4096, 31622, 99999):
            for seen in (number * number - 1, number * number, number * number + 1):
                self.assertEqual(last_answer(begin(*TWELVE), root(*digits_of(seen))), rooted(TWELVE, seen))
        self.assertEqual(last_answer(begin(*MIXED), root(1, 4, 3)), [2, 1, 1, 2, 2, 2])
        self.assertEqual(last_answer(begin(*MIXED), root(1, 4, 5)), [2, 1, 2, 1, 1])

    def test_a_number_of_one_pair_needs_nothing_laid(self):
        for number in range(100):
            square = math.isqrt(number)
            answer = told(square) + told(number - square * square)
            self.assertEqual(last_answer(root(*digits_of(number))), answer)
            self.assertEqual(last_answer(begin((0, 0, 0, 0)), root(*digits_of(number))), answer)

    def test_0_alone_and_several_noughts(self):
        for many in (1, 2, 3, 15, 16):
            self.assertEqual(last_answer(root(*[0] * many)), [1, 0, 1, 0])
            self.assertEqual(last_answer(begin((7, 7, 7, 7)), root(*[0] * many)), [1, 0, 1, 0])

    def test_noughts_ahead_make_no_pair(self):
        for many in range(1, 14):
            self.assertEqual(last_answer(begin((2, 2, 2, 2)), root(*[0] * many, 1, 4, 4)), [2, 1, 2, 1, 0])
        for many in range(1, 15):
            self.assertEqual(last_answer(root(*[0] * many, 9, 9)), [1, 9, 2, 1, 8])
            self.assertEqual(last_answer(root(*[0] * many, 7)), [1, 2, 1, 3])

    def test_noughts_within_and_behind(self):
        box = begin((2, 2, 2, 2), (0, 0, 0, 0), (0, 0, 0, 0))
        self.assertEqual(last_answer(box, root(1, 0, 0, 0, 0, 0, 0)), [4, 1, 0, 0, 0, 1, 0])
        self.assertEqual(last_answer(box, root(1, 0, 0, 0, 0, 0, 5)), [4, 1, 0, 0, 0, 1, 5])

    def test_sixteen_digits(self):
        self.assertEqual(
            last_answer(begin(*ROOT_OF_NINES), root(*[9] * 16)), told(99999999) + told(199999998))
        self.assertEqual(
            last_answer(begin(*[(2, 4, 6, 8)] * 8), root(*digits_of(1234123412341234))),
            rooted([(2, 4, 6, 8)] * 8, 1234123412341234))

    def test_more_is_left_than_the_root(self):
        self.assertEqual(last_answer(begin((2, 2, 2, 2)), root(1, 2, 0)), [2, 1, 0, 2, 2, 0])

    def test_the_root_of_the_last_pair_is_not_laid(self):
        # 12 is the root, but 24 isn't laid.
        self.assertEqual(last_answer(begin((2, 2, 2, 2)), root(1, 4, 4)), [2, 1, 2, 1, 0])
        rods = ROOT_OF_NINES[:7]
        self.assertEqual(last_answer(begin(*rods), root(*[9] * 14)), told(9999999) + told(19999998))
        self.assertEqual(last_answer(begin(*rods), root(*[9] * 16)), [-3] + told(19999998))

    def test_laid_for_each_pair_also_where_nothing_is_left(self):
        self.assertEqual(last_answer(begin((1, 3, 4, 5)), root(1, 0, 0)), [-3, 1, 2])
        self.assertEqual(last_answer(begin((2, 2, 2, 2)), root(1, 0, 0, 0, 0)), [-3, 2, 2, 0])

    def test_several_pairs_ahead_of_any_begin(self):
        self.assertEqual(last_answer(root(1, 0, 0)), [-3, 1, 2])
        self.assertEqual(last_answer(root(9, 9, 9)), [-3, 1, 6])
        self.assertEqual(last_answer(root(0, 4, 0, 0)), [-3, 1, 4])
        self.assertEqual(last_answer(root(*[9] * 16)), [-3, 2, 1, 8])

    def test_the_first_number_that_cannot_be_laid_is_told(self):
        # For 123 x 123 these are 2, 24.
        self.assertEqual(last_answer(begin((1, 3, 4, 5)), root(1, 5, 1, 2, 9)), [-3, 1, 2])
        self.assertEqual(last_answer(begin((1, 3, 5, 6)), root(1, 5, 1, 2, 9)), [-3, 1, 2])

    def test_a_first_number_can_be_laid_and_a_later_one_not(self):
        self.assertEqual(last_answer(begin((2, 3, 5, 6)), root(1, 5, 1, 2, 9)), [-3, 2, 2, 4])
        # For 1234 x 1234 these are 2, 24, 246.
        digits = digits_of(1234 * 1234)
        self.assertEqual(last_answer(begin((2, 4, 6, 6), (2, 4, 6, 6)), root(*digits)), [-3, 3, 2, 4, 6])
        self.assertEqual(
            last_answer(begin((2, 4, 6, 6), (2, 4, 6, 6), (6, 6, 6, 6)), root(*digits)), [4, 1, 2, 3, 4, 1, 0])

    def test_no_rod_is_laid_twice(self):
        self.assertEqual(last_answer(begin((1, 4, 1, 4)), root(5, 4, 7, 6)), [-3, 2, 1, 4])
        self.assertEqual(last_answer(begin((1, 4, 0, 0), (1, 0, 0, 0)), root(5, 4, 7, 6)), [2, 7, 4, 1, 0])

    def test_twice_a_root_of_one_digit(self):
        for digit in range(1, 10):
            number = digit * digit * 100
            twice = digits_of(2 * digit)
            rods = [(part, part, part, part) for part in twice]
            self.assertEqual(last_answer(begin(*rods), root(*digits_of(number))), [2, digit, 0, 1, 0])
            self.assertEqual(last_answer(root(*digits_of(number))), [-3, len(twice)] + twice)
            self.assertEqual(
                last_answer(begin(*rods[1:], (5, 5, 5, 5)), root(*digits_of(number))), [-3, len(twice)] + twice)

    def test_as_found_by_python(self):
        for seed in range(400):
            rods = drawn_rods(seed, 1 + seed % 12, 10)
            number = int("".join(str(digit) for digit in drawn_numbers(seed + 1000, 1 + seed % 16, 10)))
            self.assertEqual(last_answer(begin(*rods), root(*digits_of(number))), rooted(rods, number))
        for number in range(1, 2000):
            self.assertEqual(last_answer(begin(*MIXED), root(*digits_of(number))), rooted(MIXED, number))

    def test_flaws_and_what_is_laid_stay_and_do_not_matter(self):
        ahead = (begin(*MIXED), lay(3, 6), cut(0, 2, 1, 8), cut(0, 1, 1, 9), cut(2, 0, 5, 0))
        for asked, answer in (
                (root(1, 4, 4), [2, 1, 2, 1, 0]), (root(5, 4, 7, 6), [2, 7, 4, 1, 0]), (root(9, 9), [1, 9, 2, 1, 8]),
                (root(2, 2, 5, 0, 0), [3, 1, 5, 0, 1, 0]), (root(4, 9, 8, 4), [2, 7, 0, 2, 8, 4])):
            found = answers_of(*ahead, show(), row(1), asked, show(), row(1))
            self.assertEqual(found[7], answer)
            self.assertEqual(found[8:], found[5:7])

    def test_where_it_is_refused_nothing_changes(self):
        ahead = (begin(*MIXED), lay(3, 6), cut(0, 2, 1, 8))
        for asked, answer in (
                (root(1, 0, 0, 0, 1, 0, 0, 0, 0), [-3, 3, 2, 0, 0]), (root(3, 0, 2, 5, 0, 0), [-3, 3, 1, 1, 0]),
                (root(10), [-1]), (root(), [-1])):
            found = answers_of(*ahead, show(), row(1), asked, show(), row(1))
            self.assertEqual(found[5], answer)
            self.assertEqual(found[6:], found[3:5])

    def test_wrong_digits(self):
        for digits in ([], [1] * 17, [0] * 17, [0] * 20, [9] * 20, [10], [20], [1, 10], [10, 1], [0] * 15 + [11]):
            self.assertEqual(last_answer(begin(*TWELVE), root(*digits)), [-1])

    def test_wrong_digits_come_ahead_of_what_cannot_be_laid(self):
        for digits in ([], [1] * 17, [9] * 20, [1, 0, 10], [9, 9, 9, 9, 20]):
            self.assertEqual(last_answer(root(*digits)), [-1])
            self.assertEqual(last_answer(begin((5, 5, 5, 5)), root(*digits)), [-1])


if __name__ == "__main__":
    unittest.main()
