import unittest

from asking import GREATEST, begins, bout, check, flat, standing, wrestler
from stillfirst.standings import answers


class Answers(unittest.TestCase):

    def test_each_answer_has_its_count_before_it(self):
        calls = [0, 1, 11, 1, 11, 1, 9, 2, 0, 1, 3, 1, 1, 3, 0, 1, 16, 2, 0, 0]
        self.assertEqual(answers(calls), [1, 0, 1, 0, 1, 1, 1, 2, 1, 0, 4, 1, 12, 11, 9, 1, -1, 1, -1, 1, -4])

    def test_check_alone_answers_one_number(self):
        self.assertEqual(answers([3, 0]), [1, 0])

    def test_the_example_of_the_readme(self):
        self.assertEqual(answers([1, 11, 1, 11, 1, 9, 2, 0, 1, 3, 1, 1]), [1, 0, 1, 1, 1, 2, 1, 0, 4, 1, 12, 11, 9])

    def test_what_is_handed_in_is_not_changed(self):
        for calls in self.lists():
            handed = list(calls)
            answers(handed)
            self.assertEqual(handed, calls)

    def test_nothing_is_kept_from_one_time_to_the_next(self):
        for calls in self.lists():
            told = answers(list(calls))
            self.assertEqual(answers(list(calls)), told)
            self.assertEqual(answers([3, 0, 2, 0, 1, 1, 4]), [1, 0, 1, -2, 1, 0])

    def test_what_was_given_back_may_be_changed(self):
        for calls in self.lists():
            told = answers(calls)
            kept = list(told)
            told.clear()
            self.assertEqual(answers(calls), kept)

    def test_a_list_of_whole_numbers_is_given_back(self):
        for calls in self.lists():
            told = answers(calls)
            self.assertIs(type(told), list)
            self.assertEqual({type(number) for number in told}, {int})

    def test_sixty_calls_with_the_longest_rows(self):
        full = standing([1, 2, 3, 4, 5, 6], [(0, 1)] * 9)
        calls = full + [check(*[1] * 9), check(*[GREATEST] * 12)] * 22 + [check(*[0] * 9)]
        self.assertEqual(len(calls), 60)
        told = answers(flat(calls))
        expected = [number for place in (range(6), range(9)) for number in flat([1, n] for n in place)]
        expected += [7, 1, 10, 2, 3, 4, 5, 6, 1, -1] * 22 + [7, 1, 1, 11, 3, 4, 5, 6]
        self.assertEqual(told, expected)

    def lists(self):
        full = standing([1, 2, 3, 4, 5, 6], [(0, 1), (5, 4)] * 4 + [(2, 3)])
        return [
            flat(calls) for calls in (
                [begins()],
                full + [check(*[1, 0, 1] * 3), begins(), check()] + full,
                [wrestler(GREATEST), bout(0, 0), check(*[2] * 12), wrestler(15), bout(0, 0)],
                full + full,
            )
        ]


if __name__ == "__main__":
    unittest.main()
