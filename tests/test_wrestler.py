import unittest

from asking import GREATEST, ask, check, expect_refusal, last, standing, wrestler


class Wrestler(unittest.TestCase):

    def test_the_numbers_0_to_5_are_answered_in_order(self):
        self.assertEqual(ask([wrestler(1)] * 6), [[0], [1], [2], [3], [4], [5]])

    def test_wins_from_0_to_15_are_taken_and_kept(self):
        for wins in range(16):
            with self.subTest(wins=wins):
                self.assertEqual(ask([wrestler(wins), check()]), [[0], [1, wins]])

    def test_wins_above_15_are_refused(self):
        for wins in (16, 17, 255, 2 ** 31, GREATEST):
            for there in ([], [15], [0, 5], [1] * 5):
                with self.subTest(wins=wins, there=there):
                    expect_refusal(self, standing(there, []), wrestler(wins), -1)

    def test_wins_above_15_are_refused_where_there_are_bouts(self):
        expect_refusal(self, standing([2, 3], [(0, 1), (1, 0)]), wrestler(16), -1)

    def test_a_refused_one_takes_no_number(self):
        self.assertEqual(ask([wrestler(16), wrestler(15), wrestler(16), wrestler(0)]), [[-1], [0], [-1], [1]])

    def test_the_seventh_is_refused(self):
        for wins in (0, 9, 15):
            with self.subTest(wins=wins):
                expect_refusal(self, standing([1, 2, 3, 4, 5, 6], [(0, 5)]), wrestler(wins), -5)

    def test_the_seventh_with_wins_above_15_is_refused_for_its_wins(self):
        for wins in (16, GREATEST):
            with self.subTest(wins=wins):
                expect_refusal(self, standing([1, 2, 3, 4, 5, 6], []), wrestler(wins), -1)

    def test_refused_ones_do_not_fill_the_standing(self):
        calls = [wrestler(16)] * 7 + [wrestler(4)] * 6
        self.assertEqual(last(calls), [5])
        self.assertEqual(last(calls + [wrestler(4)]), [-5])

    def test_a_wrestler_may_come_behind_a_bout(self):
        calls = standing([1, 2], [(0, 1)]) + [wrestler(9), check(1)]
        self.assertEqual(ask(calls)[3:], [[2], [1, 2, 2, 9]])


if __name__ == "__main__":
    unittest.main()
