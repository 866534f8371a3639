import unittest

from asking import GREATEST, ask, begins, bout, expect_refusal, last, odds, standing, wrestler


class Odds(unittest.TestCase):

    def answered(self, wins, bouts, who):
        return last(standing(wins, bouts) + [odds(who)])

    def test_one_wrestler_alone_is_first_alone(self):
        for wins in (0, 7, 15):
            with self.subTest(wins=wins):
                self.assertEqual(self.answered([wins], [], 0), [1, 0, 1])

    def test_with_no_bouts_there_is_one_outcome(self):
        self.assertEqual(self.answered([4, 5], [], 0), [0, 0, 1])
        self.assertEqual(self.answered([4, 5], [], 1), [1, 0, 1])

    def test_with_as_many_wins_one_is_first_but_not_alone(self):
        for who in range(2):
            self.assertEqual(self.answered([5, 5], [], who), [0, 1, 1])
            self.assertEqual(self.answered([5, 5, 4], [], who), [0, 1, 1])
        for many in range(2, 7):
            self.assertEqual(self.answered([5] * many, [], many - 1), [0, 1, 1])

    def test_as_many_wins_as_another_do_not_help_behind_a_third(self):
        self.assertEqual(self.answered([4, 4, 5], [], 0), [0, 0, 1])

    def test_one_bout(self):
        self.assertEqual(self.answered([4, 4], [(0, 1)], 0), [1, 0, 2])
        self.assertEqual(self.answered([4, 4], [(0, 1)], 1), [1, 0, 2])
        self.assertEqual(self.answered([5, 4], [(0, 1)], 0), [1, 1, 2])
        self.assertEqual(self.answered([5, 4], [(0, 1)], 1), [0, 1, 2])
        self.assertEqual(self.answered([6, 4], [(0, 1)], 0), [2, 0, 2])
        self.assertEqual(self.answered([6, 4], [(0, 1)], 1), [0, 0, 2])

    def test_alone_and_together_among_three(self):
        bouts = [(0, 1), (2, 0), (2, 1)]
        self.assertEqual(self.answered([11, 11, 10], bouts, 0), [2, 3, 8])
        self.assertEqual(self.answered([11, 11, 10], bouts, 1), [2, 3, 8])
        self.assertEqual(self.answered([11, 11, 10], bouts, 2), [0, 2, 8])

    def test_each_bout_makes_twice_as_many_outcomes(self):
        for many in range(10):
            with self.subTest(many=many):
                self.assertEqual(self.answered([15, 0, 0], [(1, 2)] * many, 0), [2 ** many, 0, 2 ** many])
                self.assertEqual(self.answered([15, 0, 0], [(1, 2)] * many, 1), [0, 0, 2 ** many])

    def test_nine_bouts(self):
        self.assertEqual(self.answered([0, 0], [(0, 1)] * 9, 0), [256, 0, 512])
        self.assertEqual(self.answered([0, 1], [(0, 1)] * 9, 0), [130, 126, 512])
        self.assertEqual(self.answered([0, 1], [(0, 1)] * 9, 1), [256, 126, 512])

    def test_one_that_is_not_there_is_refused(self):
        for absent in (2, 3, 6, GREATEST):
            with self.subTest(absent=absent):
                expect_refusal(self, standing([4, 5], [(0, 1)]), odds(absent), -2)
        for who in (0, 1, GREATEST):
            with self.subTest(who=who):
                expect_refusal(self, [], odds(who), -2)
        expect_refusal(self, standing([1] * 6, [(0, 5)] * 9), odds(6), -2)

    def test_behind_begins_in_the_middle_nobody_is_there(self):
        calls = standing([5, 6], [(0, 1)]) + [odds(1), begins(), odds(1), wrestler(3), odds(0), odds(1)]
        self.assertEqual(ask(calls)[3:], [[1, 1, 2], [0], [-2], [0], [1, 0, 1], [-2]])

    def test_it_speaks_of_what_is_there_by_then(self):
        calls = [wrestler(4), odds(0), wrestler(4), odds(0), bout(0, 1), odds(0), wrestler(6), odds(0)]
        self.assertEqual(ask(calls)[1::2], [[1, 0, 1], [0, 1, 1], [1, 0, 2], [0, 0, 2]])


if __name__ == "__main__":
    unittest.main()
