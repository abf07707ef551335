import unittest

from lines import MIXED, answers_of, arrows, begin, cut, digits_of, laid, last_answer, lay, row, show

NUMBERS = (1, 7, 9, 10, 36, 90, 99, 407, 1000, 58213, 12345679, 99999999)


def read(answer):
    """What the arrows come to: the last that's handed on, and all units."""
    number = answer[-2]
    for units in answer[::-2]:
        number = 10 * number + units
    return number


class ArrowsTest(unittest.TestCase):
    def test_one_rod(self):
        self.assertEqual(last_answer(laid(7), arrows(1)), [0, 7])
        self.assertEqual(last_answer(laid(7), arrows(6)), [4, 2])
        self.assertEqual(last_answer(laid(5), arrows(2)), [1, 0])

    def test_each_row_of_one_rod(self):
        for digit in range(10):
            for k in range(10):
                self.assertEqual(
                    last_answer(laid(digit), arrows(k)), [digit * k // 10, digit * k % 10])

    def test_from_the_right_with_what_was_handed_on(self):
        self.assertEqual(last_answer(laid(36), arrows(4)), [2, 4, 1, 4])
        self.assertEqual(last_answer(laid(12), arrows(5)), [1, 0, 0, 6])

    def test_tens_that_come_by_what_was_handed_on(self):
        self.assertEqual(last_answer(laid(34), arrows(3)), [1, 2, 1, 0])
        self.assertEqual(last_answer(laid(334), arrows(3)), [1, 2, 1, 0, 1, 0])

    def test_eight_rods(self):
        self.assertEqual(last_answer(laid(99999999), arrows(9)), [8, 1] + [8, 9] * 7)
        self.assertEqual(
            last_answer(laid(12345679), arrows(9)), [8, 1, 7, 1, 6, 1, 5, 1, 4, 1, 3, 1, 2, 1, 1, 1])

    def test_row_0(self):
        self.assertEqual(last_answer(laid(7), arrows(0)), [0, 0])
        self.assertEqual(last_answer(laid(99999999), arrows(0)), [0, 0] * 8)

    def test_row_1(self):
        self.assertEqual(last_answer(laid(58213), arrows(1)), [0, 3, 0, 1, 0, 2, 0, 8, 0, 5])

    def test_it_comes_to_k_times_the_number(self):
        for number in NUMBERS:
            for k in range(10):
                answer = last_answer(laid(number), arrows(k))
                self.assertEqual(len(answer), 2 * len(str(number)))
                self.assertTrue(all(0 <= part <= 9 for part in answer))
                self.assertEqual(read(answer), k * number)

    def test_noughts_that_are_laid(self):
        self.assertEqual(last_answer(begin(*[(0, 5, 5, 5)] * 3), lay(0, 0, 5), arrows(4)), [2, 0, 0, 2, 0, 0])
        self.assertEqual(last_answer(laid(0), arrows(9)), [0, 0])

    def test_digits_that_are_laid_from_faces_of_any_rod(self):
        self.assertEqual(last_answer(begin(*MIXED), lay(8, 4, 9), arrows(2)), [1, 8, 0, 9, 1, 6])

    def test_flaws_do_not_matter(self):
        flaws = [cut(0, 0, k, 99 - k) for k in range(1, 10)] + [cut(1, 0, k, 0) for k in range(1, 10)]
        for k in range(10):
            self.assertEqual(last_answer(laid(36), *flaws, arrows(k)), last_answer(laid(36), arrows(k)))
        self.assertEqual(last_answer(laid(36), cut(1, 0, 4, 99), arrows(4)), [2, 4, 1, 4])

    def test_k_above_9(self):
        for k in (10, 11, 20):
            self.assertEqual(last_answer(laid(36), arrows(k)), [-1])

    def test_nothing_laid(self):
        for k in range(10):
            self.assertEqual(last_answer(arrows(k)), [-6])
            self.assertEqual(last_answer(begin(*MIXED), arrows(k)), [-6])
            self.assertEqual(last_answer(laid(36), begin(*MIXED), arrows(k)), [-6])

    def test_k_above_9_comes_first(self):
        for k in (10, 20):
            self.assertEqual(last_answer(arrows(k)), [-1])
            self.assertEqual(last_answer(begin(*MIXED), arrows(k)), [-1])

    def test_nothing_changes(self):
        ahead = (begin(*MIXED), lay(3, 6), cut(0, 2, 4, 50))
        for k in (0, 4, 9, 10):
            found = answers_of(*ahead, show(), row(4), arrows(k), show(), row(4), arrows(k))
            self.assertEqual(found[6:], found[3:6])

    def test_what_is_laid_now(self):
        found = answers_of(begin(*MIXED), lay(3, 6), arrows(2), lay(8, 2), arrows(2), lay(1, 1, 1), arrows(2))
        self.assertEqual([found[2], found[4], found[5], found[6]], [
            [1, 2, 0, 7], [0, 4, 1, 6], [-3], [0, 4, 1, 6]])

    def test_as_done_by_hand(self):
        for number in NUMBERS:
            for k in range(10):
                told = []
                handed_on = 0
                for digit in reversed(digits_of(number)):
                    handed_on, units = divmod(k * digit + handed_on, 10)
                    told += [handed_on, units]
                self.assertEqual(last_answer(laid(number), arrows(k)), told)


if __name__ == "__main__":
    unittest.main()
