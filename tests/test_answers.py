import unittest

from lairdrods.box import answers
from lines import MIXED, answers_of, begin, by, cut, into, lay, row

# begin; lay 36; cut; row 4; by 25; into 100
EVERY_CALL = [
    0, 8, 1, 2, 3, 4, 5, 6, 7, 8,
    1, 2, 3, 6,
    2, 1, 0, 4, 99,
    3, 4,
    4, 2, 2, 5,
    5, 3, 1, 0, 0,
]
EVERY_ANSWER = [
    1, 0,
    5, 0, 0, 2, 1, 1,
    1, 1,
    7, 2, 12, 24, 3, 1, 4, 4,
    11, 3, 9, 0, 0, 2, 7, 2, 3, 1, 8, 0,
    5, 1, 2, 2, 2, 8,
]
# by, lay, begin, row, into, cut, lay, into, begin, row: each refusal among them
SEVERAL_REFUSED = [
    4, 1, 7,
    1, 1, 7,
    0, 4, 0, 0, 0, 0,
    3, 10,
    5, 0,
    2, 1, 0, 1, 0,
    1, 1, 0,
    5, 1, 9,
    0, 0,
    3, 0,
]
SEVERAL_REFUSED_ANSWER = [
    1, -6,
    1, -3,
    1, 0,
    1, -1,
    1, -1,
    1, -1,
    3, 0, 0, 0,
    1, -7,
    1, -1,
    3, 0, 1, 0,
]


class Untouched(list):
    """A list that fails as soon as it's changed, be it for a while only."""

    def refuse(self, *args, **kwargs):
        raise AssertionError("what is handed in was changed")

    __setitem__ = __delitem__ = __iadd__ = __imul__ = refuse
    append = clear = extend = insert = pop = remove = reverse = sort = refuse


class AnswersTest(unittest.TestCase):
    def test_counts_stand_ahead_of_each_answer(self):
        self.assertEqual(answers(EVERY_CALL), EVERY_ANSWER)

    def test_a_refusal_is_its_number_alone(self):
        self.assertEqual(answers(SEVERAL_REFUSED), SEVERAL_REFUSED_ANSWER)

    def test_a_list_of_one_call(self):
        self.assertEqual(answers([0, 4, 1, 2, 3, 4]), [1, 0])
        self.assertEqual(answers([0, 0]), [1, -1])
        self.assertEqual(answers([1, 1, 5]), [1, -3])
        self.assertEqual(answers([1, 0]), [1, -1])
        self.assertEqual(answers([2, 0, 0, 1, 5]), [1, -1])
        self.assertEqual(answers([3, 5]), [1, -6])
        self.assertEqual(answers([4, 1, 5]), [1, -6])
        self.assertEqual(answers([5, 1, 5]), [1, -6])

    def test_sixty_calls(self):
        calls = begin(*MIXED) + lay(3, 6)
        told = [1, 0, 5, 0, 0, 2, 1, 1]
        for number in range(58):
            v = 40 + number % 50
            calls += cut(2, 3, 1 + number % 9, v)
            told += [1, min(number + 1, 9)]
        self.assertEqual(answers(calls), told)

    def test_sixty_calls_of_the_longest_lists(self):
        digits = list(range(20))
        calls = [number for call in range(60) for number in (1, 20, *digits)]
        self.assertEqual(answers(calls), [1, -1] * 60)

    def test_what_is_handed_in_stays_as_it_was(self):
        for calls in (EVERY_CALL, SEVERAL_REFUSED):
            handed_in = list(calls)
            answers(handed_in)
            self.assertEqual(handed_in, calls)

    def test_what_is_handed_in_is_not_changed_for_a_while_either(self):
        self.assertEqual(answers(Untouched(EVERY_CALL)), EVERY_ANSWER)
        self.assertEqual(answers(Untouched(SEVERAL_REFUSED)), SEVERAL_REFUSED_ANSWER)

    def test_the_same_list_is_answered_the_same_again(self):
        calls = list(EVERY_CALL)
        first = answers(calls)
        self.assertEqual(answers(calls), first)
        self.assertIsNot(answers(calls), first)

    def test_what_was_given_back_may_be_changed_by_whoever_called(self):
        first = answers(EVERY_CALL)
        first.clear()
        self.assertEqual(answers(EVERY_CALL), EVERY_ANSWER)

    def test_nothing_is_kept_from_one_time_to_the_next(self):
        answers(begin(*MIXED) + cut(0, 0, 1, 7) + lay(3, 6))
        self.assertEqual(answers_of(row(1), lay(3, 6)), [[-6], [-3]])
        self.assertEqual(answers_of(begin(*MIXED), cut(0, 0, 2, 7)), [[0], [1]])

    def test_answers_are_whole_numbers_in_a_list(self):
        for calls in (EVERY_CALL, SEVERAL_REFUSED):
            told = answers(calls)
            self.assertIs(type(told), list)
            self.assertEqual({type(number) for number in told}, {int})

    def test_calls_of_a_line_know_of_those_ahead_of_them(self):
        told = answers_of(
            row(1), begin(*MIXED), row(1), lay(1, 5), row(1), cut(0, 0, 1, 2), row(1),
            by(1), into(5, 0), lay(5, 1), row(1), begin(*MIXED), row(1))
        self.assertEqual(told, [
            [-6], [0], [-6], [0, 0, 0, 1, 0], [2, 1, 5, 2, 1, 5], [1], [2, 2, 5, 2, 2, 5],
            [2, 2, 5, 2, 2, 5], [1, 3, 1, 5], [0, 1, 0, 0, 0], [2, 5, 2, 2, 5, 2],
            [0], [-6]])


if __name__ == "__main__":
    unittest.main()
