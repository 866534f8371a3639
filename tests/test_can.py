import unittest

from asking import GREATEST, ask, begins, bout, can, check, expect_refusal, last, standing, wrestler


class CanBeFirst(unittest.TestCase):

    def answered(self, wins, bouts, who):
        return last(standing(wins, bouts) + [can(who)])

    def test_with_no_bouts_1_stands_alone(self):
        self.assertEqual(self.answered([7], [], 0), [1])
        self.assertEqual(self.answered([0, 0], [], 0), [1])
        self.assertEqual(self.answered([3, 9, 9], [], 1), [1])
        self.assertEqual(self.answered([3, 9, 9], [], 2), [1])

    def test_one_bout_is_won_by_the_one_told_first_or_the_other(self):
        self.assertEqual(self.answered([4, 4], [(0, 1)], 0), [1, 1])
        self.assertEqual(self.answered([4, 4], [(0, 1)], 1), [1, 0])
        self.assertEqual(self.answered([4, 4], [(1, 0)], 0), [1, 0])

    def test_a_lost_bout_comes_before_a_won_one_where_both_make_one_first(self):
        self.assertEqual(self.answered([9, 4], [(0, 1)], 0), [1, 0])
        self.assertEqual(self.answered([9, 4], [(1, 0)], 0), [1, 0])

    def test_of_several_outcomes_the_earliest_is_told(self):
        self.assertEqual(self.answered([2, 0], [(0, 1)] * 3, 0), [1, 0, 0, 1])
        self.assertEqual(self.answered([0, 0], [(0, 1)] * 3, 0), [1, 0, 1, 1])
        self.assertEqual(self.answered([0, 0], [(0, 1), (1, 0), (0, 1)], 0), [1, 0, 0, 1])
        self.assertEqual(self.answered([5, 5, 5], [(1, 2), (0, 1), (2, 0)], 0), [1, 0, 0, 0])
        self.assertEqual(self.answered([5, 5, 5], [(1, 2), (0, 1), (2, 0)], 1), [1, 0, 0, 0])
        self.assertEqual(self.answered([5, 6, 5], [(1, 2), (0, 1), (2, 0)], 0), [1, 0, 1, 0])

    def test_the_first_bout_counts_more_than_the_ones_behind_it(self):
        # 0, 1, 1 is earlier than 1, 0, 0, though it has more bouts that are 1.
        self.assertEqual(self.answered([6, 7, 0], [(0, 1), (0, 2), (0, 1)], 0), [1, 0, 1, 1])

    def test_one_may_be_first_only_together_with_others(self):
        self.assertEqual(self.answered([11, 11, 10], [(0, 1), (2, 0), (2, 1)], 2), [1, 0, 1, 1])
        self.assertEqual(self.answered([5, 6], [(0, 1)], 0), [1, 1])
        self.assertEqual(self.answered([10, 10, 10, 10, 0], [(0, 1), (1, 2), (2, 0), (3, 4)], 3), [1, 0, 0, 0, 1])

    def test_the_longest_outcome_has_nine_numbers(self):
        self.assertEqual(self.answered([0, 9], [(0, 1)] * 9, 0), [1] + [1] * 9)
        self.assertEqual(self.answered([0, 9], [(1, 0)] * 9, 0), [1] + [0] * 9)
        self.assertEqual(self.answered([0, 8], [(0, 1)] * 9, 0), [1] + [1] * 9)
        self.assertEqual(self.answered([0, 7], [(0, 1)] * 9, 0), [1, 0] + [1] * 8)

    def test_check_finds_this_one_first_by_the_outcome(self):
        before = standing([11, 11, 10, 8], [(0, 1), (2, 0), (2, 1), (3, 2), (3, 0)])
        for who in range(3):
            told = last(before + [can(who)])
            ends = last(before + [check(*told[1:])])[1:]
            self.assertEqual((told[0], ends[who]), (1, max(ends)))


class CannotBeFirst(unittest.TestCase):

    def answered(self, wins, bouts, who):
        return last(standing(wins, bouts) + [can(who)])

    def test_one_wrestler_alone_stands_in_the_way(self):
        self.assertEqual(self.answered([5, 4], [], 1), [0, 1])
        self.assertEqual(self.answered([4, 5], [], 0), [0, 2])
        self.assertEqual(self.answered([9, 0, 0, 0, 0, 10], [], 0), [0, 32])

    def test_two_that_meet_stand_in_the_way(self):
        self.assertEqual(self.answered([11, 11, 9, 5], [(0, 1), (2, 3), (3, 2)], 2), [0, 3])
        self.assertEqual(self.answered([5, 11, 9, 11], [(3, 1), (2, 0), (0, 2)], 2), [0, 10])

    def test_two_that_do_not_meet_do_not(self):
        self.assertEqual(self.answered([11, 11, 9, 5], [(0, 3), (1, 3), (2, 3), (3, 2)], 2), [1, 0, 0, 1, 0])

    def test_three_stand_in_the_way(self):
        bouts = [(0, 1), (0, 1), (1, 2), (2, 0), (3, 4)]
        self.assertEqual(self.answered([10, 10, 10, 10, 0], bouts, 3), [0, 7])

    def test_all_five_others_stand_in_the_way(self):
        bouts = [(1, 2), (2, 3), (3, 4), (4, 5), (5, 1), (1, 3)]
        self.assertEqual(self.answered([2, 1, 1, 1, 1, 1], bouts, 0), [0, 62])
        self.assertEqual(self.answered([2, 1, 1, 1, 1, 1], bouts[:5], 0)[0], 1)

    def test_each_bout_of_the_same_two_is_shared_out(self):
        self.assertEqual(self.answered([9, 9, 10], [(0, 1), (1, 0), (0, 1)], 2), [0, 3])
        self.assertEqual(self.answered([9, 9, 10], [(0, 1), (1, 0)], 2), [1, 0, 0])

    def test_of_several_sets_the_lowest_number_is_told(self):
        self.assertEqual(self.answered([12, 12, 9], [], 2), [0, 1])
        self.assertEqual(self.answered([9, 12, 12], [], 0), [0, 2])
        self.assertEqual(self.answered([12, 9, 12], [], 1), [0, 1])

    def test_a_set_of_two_may_be_lower_than_one_wrestler_alone(self):
        self.assertEqual(self.answered([11, 11, 12, 9, 0], [(0, 1), (3, 4), (3, 4)], 3), [0, 3])
        self.assertEqual(self.answered([9, 12, 11, 11, 0], [(2, 3), (0, 4), (0, 4)], 0), [0, 2])

    def test_bouts_with_the_asked_one_are_not_shared_out(self):
        self.assertEqual(self.answered([10, 11, 9], [(0, 2)], 2), [0, 2])

    def test_bouts_with_one_outside_the_set_are_not_shared_out(self):
        self.assertEqual(self.answered([10, 11, 10, 0], [(0, 3), (3, 0)], 2), [0, 2])

    def test_own_bouts_that_are_too_few_do_not_help(self):
        self.assertEqual(self.answered([12, 9], [(0, 1), (0, 1)], 1), [0, 1])
        self.assertEqual(self.answered([11, 11, 10], [(0, 2), (0, 1), (0, 1), (1, 0)], 2), [0, 3])
        self.assertEqual(self.answered([11, 9], [(0, 1), (0, 1)], 1), [1, 0, 0])


class CanOtherwise(unittest.TestCase):

    def test_one_that_is_not_there_is_refused(self):
        for absent in (2, 3, 6, GREATEST):
            with self.subTest(absent=absent):
                expect_refusal(self, standing([4, 5], [(0, 1)]), can(absent), -2)
        for who in (0, 1, GREATEST):
            with self.subTest(who=who):
                expect_refusal(self, [], can(who), -2)
        expect_refusal(self, standing([1] * 6, [(0, 5)] * 9), can(6), -2)

    def test_behind_begins_in_the_middle_nobody_is_there(self):
        calls = standing([5, 6], [(0, 1)]) + [can(1), begins(), can(1), wrestler(3), can(0), can(1), wrestler(4)]
        self.assertEqual(ask(calls)[3:], [[1, 0], [0], [-2], [0], [1], [-2], [1]])
        self.assertEqual(last(calls + [can(0)]), [0, 2])

    def test_it_speaks_of_what_is_there_by_then(self):
        calls = [wrestler(3), can(0), wrestler(4), can(0), bout(0, 1), can(0), wrestler(5), can(0)]
        self.assertEqual(ask(calls), [[0], [1], [1], [0, 2], [0], [1, 1], [2], [0, 4]])


if __name__ == "__main__":
    unittest.main()
