import unittest

from lines import (
    MIXED, TWELVE, answers_of, begin, cut, digits_of, drawn_numbers, explain, laid, last_answer, lay, row, show)


def explained(rods, number, k, reading):
    """The answer of explain, found by cutting each number into each cell and reading the row."""
    ahead = (begin(*rods), lay(*digits_of(number)))
    places = answers_of(*ahead)[1][1:]
    found = []
    for rod, face in zip(places[::2], places[1::2]):
        for v in range(100):
            answer = last_answer(*ahead, cut(rod, face, k, v), row(k))
            digits = answer[2 + len(places) // 2:]
            if v != k * rods[rod][face] and digits == digits_of(reading):
                found.append([rod, face, v])
    return [len(found)] + [part for told in found for part in told]


class ExplainTest(unittest.TestCase):
    def test_no_cell_explains_it(self):
        # Row 4 of 36 is 12, 24: without a flaw it reads 144.
        self.assertEqual(last_answer(laid(36), explain(4, 1, 4, 4)), [0])
        self.assertEqual(last_answer(laid(36), explain(4, 9, 9, 9, 9)), [0])
        self.assertEqual(last_answer(laid(36), explain(4, 0)), [0])

    def test_one_cell(self):
        self.assertEqual(last_answer(laid(36), explain(4, 1, 4, 5)), [1, 1, 0, 25])
        self.assertEqual(last_answer(laid(36), explain(4, 1, 4, 3)), [1, 1, 0, 23])
        self.assertEqual(last_answer(laid(36), explain(4, 9, 9, 4)), [1, 0, 0, 97])

    def test_several_cells(self):
        self.assertEqual(last_answer(laid(36), explain(4, 1, 5, 4)), [2, 0, 0, 13, 1, 0, 34])
        self.assertEqual(last_answer(laid(36), explain(4, 1, 3, 4)), [2, 0, 0, 11, 1, 0, 14])
        self.assertEqual(last_answer(laid(111), explain(1, 1, 0, 1)), [1, 1, 0, 0])
        self.assertEqual(last_answer(laid(999), explain(9, 8, 9, 8, 1)), [2, 1, 0, 80, 2, 0, 71])

    def test_from_the_left_whatever_the_rods_numbers(self):
        ahead = (begin(*MIXED), lay(9, 5, 3))
        self.assertEqual(
            answers_of(*ahead, explain(1, 9, 6, 3), explain(1, 9, 4, 3), explain(1, 9, 5, 2)),
            [[0], [0, 2, 0, 1, 0, 0, 2], [2, 1, 0, 6, 0, 2, 13], [1, 1, 0, 4], [1, 0, 2, 2]])

    def test_eight_rods(self):
        found = last_answer(laid(12345678), explain(1, *digits_of(12345688)))
        self.assertEqual(found, [2, 6, 0, 8, 7, 0, 18])
        found = last_answer(laid(12345678), explain(1, *digits_of(92345678)))
        self.assertEqual(found, [2, 0, 0, 9, 1, 0, 82])

    def test_one_digit_handed_over(self):
        for digit in range(10):
            answer = [0] if digit == 7 else [1, 0, 0, digit]
            self.assertEqual(last_answer(laid(7), explain(1, digit)), answer)

    def test_the_bounds_of_a_cell(self):
        found = answers_of(laid(7), explain(3, 0), explain(3, 9, 9), explain(3, 1, 0, 0))
        self.assertEqual(found[2:], [[1, 0, 0, 0], [1, 0, 0, 99], [0]])
        found = answers_of(laid(11), explain(1, 1), explain(1, 1, 0), explain(1, 0), explain(1, 9))
        self.assertEqual(found[2:], [[1, 0, 0, 0], [1, 1, 0, 0], [0], [0]])
        found = answers_of(laid(11), explain(1, 9, 9, 1), explain(1, 1, 0, 0, 1), explain(1, 1, 0, 9), explain(1, 1, 1, 0))
        self.assertEqual(found[2:], [[1, 0, 0, 99], [0], [1, 1, 0, 99], [0]])

    def test_the_cells_own_multiple_is_never_told(self):
        for number in (0, 7, 36, 99, 58213, 99999999):
            for k in range(1, 10):
                self.assertEqual(last_answer(laid(number), explain(k, *digits_of(k * number))), [0])

    def test_noughts_that_are_laid(self):
        calls = (begin((0, 0, 0, 0), (0, 0, 0, 0)), lay(0, 0))
        found = answers_of(*calls, explain(5, 0), explain(5, 3), explain(5, 3, 0), explain(5, 9, 9, 0))
        self.assertEqual(found[2:], [[0], [1, 1, 0, 3], [2, 0, 0, 3, 1, 0, 30], [1, 0, 0, 99]])

    def test_noughts_ahead(self):
        for many in range(1, 10):
            self.assertEqual(
                last_answer(laid(36), explain(4, *[0] * many, 1, 5, 4)), [2, 0, 0, 13, 1, 0, 34])
        self.assertEqual(last_answer(laid(7), explain(3, *[0] * 12)), [1, 0, 0, 0])

    def test_twelve_digits(self):
        self.assertEqual(last_answer(laid(99999999), explain(9, *[9] * 12)), [0])
        found = last_answer(laid(99999999), explain(9, 0, 0, *digits_of(99 * 10**7 + 9 * 9999999)))
        self.assertEqual(found, [1, 0, 0, 99])

    def test_flaws_do_not_matter(self):
        flaws = [cut(0, 0, k, 50 + k) for k in range(1, 10)] + [cut(1, 0, k, 90 + k) for k in range(1, 10)]
        for reading in (144, 145, 154, 994, 550):
            for k in (1, 4, 9):
                asked = explain(k, *digits_of(reading))
                self.assertEqual(last_answer(laid(36), *flaws, asked), last_answer(laid(36), asked))

    def test_the_cells_own_flaw_does_not_matter(self):
        ahead = (laid(36), cut(1, 0, 4, 34))
        found = answers_of(*ahead, row(4), explain(4, 1, 5, 4), explain(4, 1, 4, 4))
        self.assertEqual(found[3:], [[2, 12, 34, 3, 1, 5, 4], [2, 0, 0, 13, 1, 0, 34], [0]])

    def test_each_flaw_is_among_what_explains_its_reading(self):
        for k in range(1, 10):
            for v in (0, 1, 50, 99):
                reading = last_answer(laid(427), cut(1, 0, k, v), row(k))[5:]
                found = last_answer(laid(427), explain(k, *reading))
                self.assertIn([1, 0, v], [found[start:start + 3] for start in range(1, len(found), 3)])

    def test_each_face_tells_its_own_digit(self):
        for face in range(4):
            self.assertEqual(last_answer(begin(*MIXED), lay(5 + face), explain(2, 4)), [1, 1, face, 4])

    def test_as_found_by_cutting_and_reading(self):
        for seed in range(40):
            drawn = drawn_numbers(seed, 4, 1000)
            number = drawn[0] % (10, 100, 1000)[seed % 3]
            k = 1 + drawn[1] % 9
            reading = max(0, k * number + drawn[2] % 41 * (1, 10)[seed % 2] - drawn[3] % 100)
            found = last_answer(begin(*TWELVE), lay(*digits_of(number)), explain(k, *digits_of(reading)))
            self.assertEqual(found, explained(TWELVE, number, k, reading))

    def test_k_0_and_above_9(self):
        for k in (0, 10, 11, 20):
            self.assertEqual(last_answer(laid(36), explain(k, 0)), [-1])
            self.assertEqual(last_answer(laid(36), explain(k, 1, 4, 5)), [-1])

    def test_wrong_digits(self):
        for digits in ([], [0] * 13, [1] * 13, [1] * 20, [10], [20], [1, 10], [10, 1]):
            for k in (1, 4, 9):
                self.assertEqual(last_answer(laid(36), explain(k, *digits)), [-1])

    def test_nothing_laid(self):
        for k in range(1, 10):
            self.assertEqual(last_answer(explain(k, 1)), [-6])
            self.assertEqual(last_answer(begin(*MIXED), explain(k, *[9] * 12)), [-6])
            self.assertEqual(last_answer(laid(36), begin(*MIXED), explain(k, 1, 4, 5)), [-6])

    def test_what_is_wrong_comes_first(self):
        for asked in (explain(0, 1), explain(10, 1), explain(20, 1), explain(4), explain(4, *[1] * 13), explain(4, 10)):
            self.assertEqual(last_answer(asked), [-1])
            self.assertEqual(last_answer(begin(*MIXED), asked), [-1])

    def test_nothing_changes(self):
        ahead = (begin(*MIXED), lay(3, 6), cut(0, 2, 4, 50))
        for asked in (explain(4, 1, 4, 5), explain(4, 1, 5, 4), explain(0, 1), explain(4)):
            found = answers_of(*ahead, show(), row(4), asked, show(), row(4), asked)
            self.assertEqual(found[6:], found[3:6])


if __name__ == "__main__":
    unittest.main()
