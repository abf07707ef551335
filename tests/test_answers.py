import time
import unittest

from lairdrods.box import answers
from lines import (
    MIXED, TWELVE, answers_of, arrows, begin, by, count, cut, explain, into, lay, root, row, show)

MOST_SECONDS = 5
# begin; lay 36; cut; row 4; by 25; into 100; root of 1024; arrows 4; explain 154 by row 4; count 2; show
EVERY_CALL = [
    0, 8, 1, 2, 3, 4, 5, 6, 7, 8,
    1, 2, 3, 6,
    2, 1, 0, 4, 99,
    3, 4,
    4, 2, 2, 5,
    5, 3, 1, 0, 0,
    6, 4, 1, 0, 2, 4,
    7, 4,
    8, 4, 3, 1, 5, 4,
    9, 2,
    10,
]
EVERY_ANSWER = [
    1, 0,
    5, 0, 0, 2, 1, 1,
    1, 1,
    7, 2, 12, 24, 3, 1, 4, 4,
    11, 3, 9, 0, 0, 2, 7, 2, 3, 1, 8, 0,
    5, 1, 2, 2, 2, 8,
    5, 2, 3, 2, 1, 0,
    4, 2, 4, 1, 4,
    7, 2, 0, 2, 13, 1, 1, 34,
    1, 32,
    19, 2, 1, 2, 3, 4, 5, 6, 7, 8, 1, 1, 0, 4, 99, 2, 0, 2, 1, 1,
]
# by, lay, begin, row, into, cut, lay, into, begin, row; then root, arrows, explain, count
# and begin, root, arrows, explain again: each refusal among them
SEVERAL_REFUSED = [
    4, 1, 7,
    1, 1, 7,
    0, 4, 0, 0, 0, 0,
    3, 10,
    5, 0,
    2, 1, 0, 1, 0,
    1, 1, 0,
    5, 1, 9,
    0, 0,
    3, 0,
    6, 3, 1, 4, 4,
    7, 10,
    8, 0, 1, 5,
    9, 4,
    0, 4, 5, 5, 5, 5,
    6, 0,
    7, 3,
    8, 3, 2, 1, 5,
]
SEVERAL_REFUSED_ANSWER = [
    1, -6,
    1, -3,
    1, 0,
    1, -1,
    1, -1,
    1, -1,
    3, 0, 0, 0,
    1, -7,
    1, -1,
    3, 0, 1, 0,
    3, -3, 1, 2,
    1, -1,
    1, -1,
    1, -1,
    1, 0,
    1, -1,
    1, -6,
    1, -6,
]


class Untouched(list):
    """A list that fails as soon as it's changed, be it for a while only."""

    def refuse(self, *args, **kwargs):
        raise AssertionError("what is handed in was changed")

    __setitem__ = __delitem__ = __iadd__ = __imul__ = refuse
    append = clear = extend = insert = pop = remove = reverse = sort = refuse


class AnswersTest(unittest.TestCase):
    def test_counts_stand_ahead_of_each_answer(self):
        self.assertEqual(answers(EVERY_CALL), EVERY_ANSWER)

    def test_a_refusal_is_its_number_alone_but_for_what_the_root_cannot_have_laid(self):
        self.assertEqual(answers(SEVERAL_REFUSED), SEVERAL_REFUSED_ANSWER)

    def test_a_list_of_one_call(self):
        self.assertEqual(answers([0, 4, 1, 2, 3, 4]), [1, 0])
        self.assertEqual(answers([0, 0]), [1, -1])
        self.assertEqual(answers([1, 1, 5]), [1, -3])
        self.assertEqual(answers([1, 0]), [1, -1])
        self.assertEqual(answers([2, 0, 0, 1, 5]), [1, -1])
        self.assertEqual(answers([3, 5]), [1, -6])
        self.assertEqual(answers([4, 1, 5]), [1, -6])
        self.assertEqual(answers([5, 1, 5]), [1, -6])
        self.assertEqual(answers([6, 1, 5]), [4, 1, 2, 1, 1])
        self.assertEqual(answers([6, 3, 5, 0, 0]), [3, -3, 1, 4])
        self.assertEqual(answers([7, 5]), [1, -6])
        self.assertEqual(answers([8, 5, 1, 5]), [1, -6])
        self.assertEqual(answers([9, 1]), [1, 0])
        self.assertEqual(answers([10]), [3, 0, 0, 0])

    def test_each_of_the_eleven_calls_in_any_order(self):
        calls = [
            show(), count(1), explain(1, 5), arrows(1), root(1, 0, 0), into(5), by(5), row(1),
            cut(0, 0, 1, 5), lay(1), begin((1, 2, 3, 4))]
        self.assertEqual(answers_of(*calls), [
            [0, 0, 0], [0], [-6], [-6], [-3, 1, 2], [-6], [-6], [-6], [-1], [-3], [0]])

    def test_sixty_calls_of_all_kinds(self):
        calls = [
            begin(*MIXED), lay(3, 6), cut(0, 2, 4, 50), row(4), by(4, 1), into(1, 0, 0), root(1, 4, 4),
            arrows(4), explain(4, 1, 5, 4), count(1), show(), lay(0, 0)]
        told = [
            [0], [0, 0, 2, 1, 1], [1], [2, 50, 24, 3, 5, 2, 4], [4, 5, 2, 7, 6, 3, 5, 2, 4, 2, 3, 6],
            [1, 2, 2, 2, 8], [2, 1, 2, 1, 0], [2, 4, 1, 4], [2, 0, 2, 13, 1, 1, 34], [10],
            [4, 1, 2, 3, 4, 5, 6, 7, 8, 9, 0, 1, 2, 3, 4, 5, 6, 1, 0, 2, 4, 50, 2, 0, 2, 1, 1], [-3]]
        self.assertEqual(answers_of(*(calls * 5)), told * 5)

    def test_sixty_cuts_in_a_line(self):
        calls = begin(*MIXED) + lay(3, 6)
        told = [1, 0, 5, 0, 0, 2, 1, 1]
        for number in range(58):
            v = 40 + number % 50
            calls += cut(2, 3, 1 + number % 9, v)
            told += [1, min(number + 1, 9)]
        self.assertEqual(answers(calls), told)

    def test_sixty_calls_of_the_longest_lists(self):
        digits = list(range(20))
        calls = [number for call in range(60) for number in (1, 20, *digits)]
        self.assertEqual(answers(calls), [1, -1] * 60)

    def test_what_is_handed_in_stays_as_it_was(self):
        for calls in (EVERY_CALL, SEVERAL_REFUSED):
            handed_in = list(calls)
            answers(handed_in)
            self.assertEqual(handed_in, calls)

    def test_what_is_handed_in_is_not_changed_for_a_while_either(self):
        self.assertEqual(answers(Untouched(EVERY_CALL)), EVERY_ANSWER)
        self.assertEqual(answers(Untouched(SEVERAL_REFUSED)), SEVERAL_REFUSED_ANSWER)

    def test_the_same_list_is_answered_the_same_again(self):
        calls = list(EVERY_CALL)
        first = answers(calls)
        self.assertEqual(answers(calls), first)
        self.assertIsNot(answers(calls), first)

    def test_what_was_given_back_may_be_changed_by_whoever_called(self):
        first = answers(EVERY_CALL)
        first.clear()
        self.assertEqual(answers(EVERY_CALL), EVERY_ANSWER)

    def test_nothing_is_kept_from_one_time_to_the_next(self):
        answers(begin(*MIXED) + cut(0, 0, 1, 7) + lay(3, 6))
        self.assertEqual(answers_of(row(1), lay(3, 6)), [[-6], [-3]])
        self.assertEqual(answers_of(begin(*MIXED), cut(0, 0, 2, 7)), [[0], [1]])

    def test_answers_are_whole_numbers_in_a_list(self):
        for calls in (EVERY_CALL, SEVERAL_REFUSED):
            told = answers(calls)
            self.assertIs(type(told), list)
            self.assertEqual({type(number) for number in told}, {int})

    def test_calls_of_a_line_know_of_those_ahead_of_them(self):
        told = answers_of(
            row(1), begin(*MIXED), row(1), lay(1, 5), row(1), cut(0, 0, 1, 2), row(1),
            by(1), into(5, 0), lay(5, 1), row(1), begin(*MIXED), row(1))
        self.assertEqual(told, [
            [-6], [0], [-6], [0, 0, 0, 1, 0], [2, 1, 5, 2, 1, 5], [1], [2, 2, 5, 2, 2, 5],
            [2, 2, 5, 2, 2, 5], [1, 3, 1, 5], [0, 1, 0, 0, 0], [2, 5, 2, 2, 5, 2],
            [0], [-6]])


class TimeTest(unittest.TestCase):
    def answers_in_time(self, *calls):
        start = time.process_time()
        told = answers_of(*calls)
        self.assertLess(time.process_time() - start, MOST_SECONDS)
        return told

    def test_three_digits_counted_again_and_again(self):
        for rods, rows in (
                (TWELVE, 1000), ([(1, 2, 3, 4)] * 12, 64), ([(1, 2, 3, 4), (5, 6, 7, 8), (9, 1, 5, 6)] * 4, 729),
                ([(7, 7, 7, 7)] * 12, 1)):
            told = self.answers_in_time(begin(*rods), *[count(3)] * 59)
            self.assertEqual(told, [[0]] + [[rows]] * 59)

    def test_eight_digits_laid_with_alike_rods(self):
        rods = [(1, 2, 3, 4)] * 12
        told = self.answers_in_time(begin(*rods), *[lay(1, 2, 3, 4, 1, 2, 3, 4)] * 59)
        self.assertEqual(told[1], [0, 0, 0, 1, 1, 2, 2, 3, 3, 4, 0, 5, 1, 6, 2, 7, 3])
        told = self.answers_in_time(begin(*rods), *[lay(1, 2, 3, 4, 1, 2, 3, 9)] * 59)
        self.assertEqual(told[1:], [[-3]] * 59)

    def test_eight_rods_explained_again_and_again(self):
        calls = [begin(*[(9, 9, 9, 9)] * 8), lay(*[9] * 8)]
        told = self.answers_in_time(*calls, *[explain(9, 8, 9, 9, 9, 9, 9, 9, 8, 1)] * 58)
        self.assertEqual(told[2:], [[2, 6, 0, 80, 7, 0, 71]] * 58)

    def test_roots_of_numbers_that_need_much_laid(self):
        told = self.answers_in_time(begin(*[(1, 8, 9, 0)] * 12), *[root(*[9] * 16)] * 59)
        self.assertEqual(told[1:], [[8] + [9] * 8 + [9, 1, 9, 9, 9, 9, 9, 9, 9, 8]] * 59)
        told = self.answers_in_time(begin(*[(1, 7, 9, 0)] * 12), *[root(*[9] * 16)] * 59)
        self.assertEqual(told[1:], [[-3, 2, 1, 8]] * 59)


if __name__ == "__main__":
    unittest.main()
