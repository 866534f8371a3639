import itertools
import unittest

from asking import GREATEST, ask, bout, check, expect_refusal, last, standing, wrestler

SIX = [11, 11, 9, 10, 0, 15]
NINE = [(0, 1), (2, 3), (1, 0), (5, 4), (4, 3), (2, 0), (3, 2), (1, 5), (0, 4)]
NINE_OF_THREE = [(0, 1), (1, 2), (2, 0), (1, 0), (2, 1), (0, 2), (0, 1), (1, 2), (2, 0)]


def by_the_words(wins, bouts, outcome):
    """What the document's words make of the outcome, counted in another way."""
    ends = []
    for who, so_far in enumerate(wins):
        as_one = [won for (one, _), won in zip(bouts, outcome) if one == who]
        as_other = [1 - won for (_, other), won in zip(bouts, outcome) if other == who]
        ends.append(so_far + sum(as_one) + sum(as_other))
    first = [mine for mine in ends if not [end for end in ends if end > mine]]
    return [len(first)] + ends


class Check(unittest.TestCase):

    def test_with_no_wrestlers_nobody_is_first(self):
        self.assertEqual(ask([check()]), [[0]])

    def test_with_no_bouts_the_outcome_is_empty(self):
        self.assertEqual(last(standing([7], []) + [check()]), [1, 7])
        self.assertEqual(last(standing([3, 9, 4], []) + [check()]), [1, 3, 9, 4])
        self.assertEqual(last(standing([3, 9, 9], []) + [check()]), [2, 3, 9, 9])

    def test_with_no_wins_at_all_everyone_is_first(self):
        for many in range(1, 7):
            with self.subTest(many=many):
                self.assertEqual(last(standing([0] * many, []) + [check()]), [many] + [0] * many)

    def test_1_is_a_win_of_the_one_told_first(self):
        calls = standing([4, 4], [(1, 0)])
        self.assertEqual(last(calls + [check(1)]), [1, 4, 5])
        self.assertEqual(last(calls + [check(0)]), [1, 5, 4])

    def test_one_is_first(self):
        calls = standing([11, 11, 9], [(0, 1), (2, 0), (2, 1)])
        self.assertEqual(last(calls + [check(1, 0, 0)]), [1, 13, 12, 9])

    def test_several_are_first(self):
        calls = standing([11, 11, 10], [(0, 1), (2, 0), (2, 1)])
        self.assertEqual(last(calls + [check(1, 1, 1)]), [2, 12, 11, 12])
        self.assertEqual(last(calls + [check(1, 1, 0)]), [2, 12, 12, 11])
        self.assertEqual(last(standing([11, 11, 11], [(0, 1), (1, 2), (2, 0)]) + [check(1, 1, 1)]), [3, 12, 12, 12])

    def test_wins_may_be_more_than_15_in_the_end(self):
        self.assertEqual(last(standing([15, 0], [(0, 1)] * 9) + [check(*[1] * 9)]), [1, 24, 0])

    def test_every_outcome_is_answered_as_the_words_tell(self):
        told = standing(SIX, NINE)
        for outcome in itertools.product((0, 1), repeat=len(NINE)):
            self.assertEqual(last(told + [check(*outcome)]), by_the_words(SIX, NINE, outcome))

    def test_close_standings_are_answered_as_the_words_tell(self):
        pairs = list(itertools.permutations(range(3), 2))
        for wins in itertools.product((3, 4), repeat=3):
            for bouts in itertools.product(pairs, repeat=2):
                outcomes = list(itertools.product((0, 1), repeat=2))
                told = ask(standing(wins, bouts) + [check(*outcome) for outcome in outcomes])
                self.assertEqual(told[5:], [by_the_words(wins, bouts, outcome) for outcome in outcomes])

    def test_it_changes_nothing(self):
        calls = standing([5, 6], [(0, 1), (1, 0)])
        told = ask(calls + [check(1, 0), check(1, 0), check(0, 0), check(1, 0), bout(0, 1), wrestler(2)])
        self.assertEqual(told[4:], [[1, 7, 6], [1, 7, 6], [1, 6, 7], [1, 7, 6], [2], [2]])

    def test_too_few_or_too_many_are_refused(self):
        for many in range(10):
            before = standing([5, 6, 7], NINE_OF_THREE[:many])
            for told in range(13):
                if told != many:
                    with self.subTest(bouts=many, told=told):
                        expect_refusal(self, before, check(*[0] * told), -1)
                        expect_refusal(self, before, check(*[1] * told), -1)

    def test_numbers_with_no_wrestlers_are_refused(self):
        for outcome in ([0], [1], [2], [0] * 12):
            with self.subTest(outcome=outcome):
                expect_refusal(self, [], check(*outcome), -1)

    def test_a_number_that_is_neither_0_nor_1_is_refused_wherever_it_stands(self):
        before = standing([5, 6, 7], NINE_OF_THREE[:4])
        for wrong in (2, 3, 256, 2 ** 31, GREATEST):
            for place in range(4):
                outcome = [0, 1, 1, 0]
                outcome[place] = wrong
                with self.subTest(outcome=outcome):
                    expect_refusal(self, before, check(*outcome), -1)

    def test_wrong_numbers_in_a_list_of_another_length_are_refused(self):
        before = standing([5, 6], [(0, 1)])
        for outcome in ([2, 2], [GREATEST] * 12, [0, 2], [1, 5, 0]):
            with self.subTest(outcome=outcome):
                expect_refusal(self, before, check(*outcome), -1)

    def test_numbers_that_are_other_calls_elsewhere_are_the_outcome_here(self):
        before = standing([5, 6], [(0, 1)] * 3)
        told = ask(before + [check(0, 0, 1), check(3, 0, 1), check(1, 1, 0)])
        self.assertEqual(told[5:], [[1, 6, 8], [-1], [2, 7, 7]])


if __name__ == "__main__":
    unittest.main()
