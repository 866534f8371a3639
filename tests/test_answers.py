import unittest

from asking import GREATEST, begins, bout, can, check, flat, needs, odds, standing, wrestler
from stillfirst.standings import answers


class Untouched(list):
    """A list that can be read alone."""

    def refuse(self, *handed, **named):
        raise AssertionError("what is handed in was changed")

    append = extend = insert = pop = remove = clear = sort = reverse = refuse
    __setitem__ = __delitem__ = __iadd__ = __imul__ = refuse


class Answers(unittest.TestCase):

    def test_each_answer_has_its_count_before_it(self):
        calls = [0, 1, 11, 1, 11, 1, 9, 2, 0, 1, 3, 1, 1, 3, 0, 1, 16, 2, 0, 0]
        self.assertEqual(answers(calls), [1, 0, 1, 0, 1, 1, 1, 2, 1, 0, 4, 1, 12, 11, 9, 1, -1, 1, -1, 1, -4])

    def test_check_alone_answers_one_number(self):
        self.assertEqual(answers([3, 0]), [1, 0])

    def test_can_answers_the_outcome_or_the_set_without_a_count_of_its_own(self):
        self.assertEqual(answers([1, 4, 1, 5, 2, 0, 1, 4, 0]), [1, 0, 1, 1, 1, 0, 2, 1, 1])
        self.assertEqual(answers([1, 4, 1, 6, 2, 0, 1, 4, 0]), [1, 0, 1, 1, 1, 0, 2, 0, 2])
        self.assertEqual(answers([1, 4, 4, 0, 4, 1]), [1, 0, 1, 1, 1, -2])

    def test_odds_answers_three_numbers_and_needs_one(self):
        calls = [1, 4, 1, 5, 2, 0, 1, 5, 0, 6, 0, 5, 2, 6, 2, 6, 1]
        self.assertEqual(answers(calls), [1, 0, 1, 1, 1, 0, 3, 0, 1, 2, 1, 1, 1, -2, 1, -2, 1, 0])
        self.assertEqual(answers([1, 4, 1, 6, 6, 0]), [1, 0, 1, 1, 1, -6])

    def test_can_odds_and_needs_may_be_the_first_call(self):
        for call in (4, 5, 6):
            for who in (0, GREATEST):
                self.assertEqual(answers([call, who]), [1, -2])

    def test_the_examples_of_the_readme(self):
        self.assertEqual(answers([1, 11, 1, 11, 1, 9, 2, 0, 1, 3, 1, 1]), [1, 0, 1, 1, 1, 2, 1, 0, 4, 1, 12, 11, 9])
        told = [1, 11, 1, 11, 1, 9, 1, 5, 2, 0, 1, 2, 2, 3, 2, 2, 3]
        given = [1, 0, 1, 1, 1, 2, 1, 3, 1, 0, 1, 1, 1, 2]
        self.assertEqual(answers(told + [4, 2]), given + [2, 0, 3])
        self.assertEqual(answers(told + [4, 0, 5, 0, 6, 0]), given + [4, 1, 1, 0, 0, 3, 4, 0, 8, 1, 1])

    def test_what_is_handed_in_is_not_changed(self):
        for calls in self.lists():
            handed = list(calls)
            answers(handed)
            self.assertEqual(handed, calls)

    def test_what_is_handed_in_is_not_changed_for_a_while_either(self):
        for calls in self.lists():
            self.assertEqual(answers(Untouched(calls)), answers(calls))

    def test_nothing_is_kept_from_one_time_to_the_next(self):
        for calls in self.lists():
            told = answers(list(calls))
            self.assertEqual(answers(list(calls)), told)
            self.assertEqual(answers([3, 0, 2, 0, 1, 1, 4]), [1, 0, 1, -2, 1, 0])

    def test_what_was_given_back_may_be_changed(self):
        for calls in self.lists():
            told = answers(calls)
            kept = list(told)
            told.clear()
            self.assertEqual(answers(calls), kept)

    def test_a_list_of_whole_numbers_is_given_back(self):
        for calls in self.lists():
            told = answers(calls)
            self.assertIs(type(told), list)
            self.assertEqual({type(number) for number in told}, {int})

    def test_sixty_calls_with_the_longest_rows(self):
        full = standing([1, 2, 3, 4, 5, 6], [(0, 1)] * 9)
        asked = [can(0), can(1), can(2), odds(0), odds(5), needs(1), needs(0), can(6)]
        calls = full + [check(*[1] * 9), check(*[GREATEST] * 12)] * 18 + asked + [check(*[0] * 9)]
        self.assertEqual(len(calls), 60)
        told = answers(flat(calls))
        expected = [number for place in (range(6), range(9)) for number in flat([1, n] for n in place)]
        expected += [7, 1, 10, 2, 3, 4, 5, 6, 1, -1] * 18
        # Of the nine bouts 0 has to win 5 to have 6 wins, as 5 has, and 1 has to win 4.
        expected += [10, 1, 0, 0, 0, 0, 1, 1, 1, 1, 1, 10, 1] + [0] * 9 + [2, 0, 3]
        expected += [3, 130, 126, 512, 3, 0, 126, 512, 1, 4, 1, 5, 1, -2]
        expected += [7, 1, 1, 11, 3, 4, 5, 6]
        self.assertEqual(told, expected)

    def lists(self):
        full = standing([1, 2, 3, 4, 5, 6], [(0, 1), (5, 4)] * 4 + [(2, 3)])
        return [
            flat(calls) for calls in (
                [begins()],
                full + [check(*[1, 0, 1] * 3), begins(), check()] + full,
                [wrestler(GREATEST), bout(0, 0), check(*[2] * 12), wrestler(15), bout(0, 0)],
                full + full,
                full + [can(0), odds(4), needs(4), can(6), begins(), can(0), odds(0), needs(0)] + full + [can(2)],
                [wrestler(3), can(0), wrestler(4), can(0), odds(0), odds(1), needs(0), needs(1)],
            )
        ]


if __name__ == "__main__":
    unittest.main()
