import unittest

from asking import GREATEST, ask, begins, bout, expect_refusal, last, needs, standing, wrestler


class Needs(unittest.TestCase):

    def answered(self, wins, bouts, who):
        return last(standing(wins, bouts) + [needs(who)])

    def test_0_where_one_is_first_whatever_comes(self):
        self.assertEqual(self.answered([9, 5], [(0, 1), (1, 0)], 0), [0])
        self.assertEqual(self.answered([7, 5], [(0, 1), (1, 0)], 0), [0])
        self.assertEqual(self.answered([7, 5, 5], [(1, 2), (1, 2)], 0), [0])

    def test_0_with_no_bouts_and_nobody_ahead(self):
        self.assertEqual(self.answered([0], [], 0), [0])
        self.assertEqual(self.answered([5, 4], [], 0), [0])
        self.assertEqual(self.answered([5, 5], [], 0), [0])
        self.assertEqual(self.answered([5, 5], [], 1), [0])

    def test_some_of_the_bouts_that_one_has_left(self):
        self.assertEqual(self.answered([6, 5], [(0, 1), (1, 0)], 0), [1])
        self.assertEqual(self.answered([5, 5], [(0, 1), (1, 0)], 0), [1])
        self.assertEqual(self.answered([5, 5], [(0, 1)] * 3, 0), [2])
        self.assertEqual(self.answered([5, 5], [(0, 1)] * 9, 1), [5])
        self.assertEqual(self.answered([5, 5, 0], [(0, 2), (0, 2), (1, 2)], 0), [1])

    def test_all_of_the_bouts_that_one_has_left(self):
        self.assertEqual(self.answered([5, 6], [(0, 1)], 0), [1])
        self.assertEqual(self.answered([5, 7], [(0, 1), (1, 0)], 0), [2])
        self.assertEqual(self.answered([0, 9], [(0, 1)] * 9, 0), [9])
        self.assertEqual(self.answered([5, 5, 5], [(0, 1), (1, 2)], 0), [1])

    def test_one_lost_bout_may_matter_more_than_another(self):
        # A win over 1 alone is enough, but a win over 2 alone is not.
        self.assertEqual(self.answered([5, 6, 0], [(0, 1), (0, 2)], 0), [2])
        self.assertEqual(self.answered([6, 6, 0], [(0, 1), (0, 2)], 0), [1])
        self.assertEqual(self.answered([7, 6, 0], [(0, 1), (0, 2)], 0), [0])

    def test_where_all_are_won_and_it_is_not_sure_it_is_refused(self):
        for wins, bouts, who in (
            ([5, 8], [(0, 1), (1, 0)], 0),
            ([4, 5], [], 0),
            ([5, 5, 5], [(1, 2)], 0),
            ([5, 5, 5], [(0, 1), (1, 2), (1, 2)], 0),
            ([11, 11, 9], [(0, 1), (2, 0), (1, 2)], 2),
            ([0, 10], [(0, 1)] * 9, 0),
        ):
            with self.subTest(wins=wins, bouts=bouts):
                expect_refusal(self, standing(wins, bouts), needs(who), -6)

    def test_one_that_is_not_there_is_refused(self):
        for absent in (2, 3, 6, GREATEST):
            with self.subTest(absent=absent):
                expect_refusal(self, standing([4, 5], [(0, 1)]), needs(absent), -2)
        for who in (0, 1, GREATEST):
            with self.subTest(who=who):
                expect_refusal(self, [], needs(who), -2)
        expect_refusal(self, standing([1] * 6, [(0, 5)] * 9), needs(6), -2)

    def test_behind_begins_in_the_middle_nobody_is_there(self):
        calls = standing([5, 6], [(0, 1)]) + [needs(1), begins(), needs(1), wrestler(3), needs(0), needs(1)]
        self.assertEqual(ask(calls)[3:], [[0], [0], [-2], [0], [0], [-2]])

    def test_it_speaks_of_what_is_there_by_then(self):
        calls = [wrestler(4), needs(0), wrestler(5), needs(0), bout(0, 1), needs(0), wrestler(6), needs(0)]
        self.assertEqual(ask(calls)[1::2], [[0], [-6], [1], [-6]])


if __name__ == "__main__":
    unittest.main()
