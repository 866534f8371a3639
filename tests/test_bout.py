import unittest

from asking import GREATEST, ask, bout, check, expect_refusal, last, standing, wrestler

NINE = [(0, 1), (0, 2), (0, 3), (1, 2), (1, 3), (2, 3), (3, 0), (2, 1), (0, 1)]


class Bout(unittest.TestCase):

    def test_the_numbers_0_to_8_are_answered_in_order(self):
        told = ask(standing([0, 0, 0, 0], NINE))
        self.assertEqual(told[4:], [[0], [1], [2], [3], [4], [5], [6], [7], [8]])

    def test_the_same_two_may_meet_again(self):
        calls = standing([0, 0], [(0, 1), (0, 1), (1, 0)])
        self.assertEqual(ask(calls)[2:], [[0], [1], [2]])
        self.assertEqual(last(calls + [check(1, 1, 1)]), [1, 2, 1])
        self.assertEqual(last(calls + [check(1, 1, 0)]), [1, 3, 0])

    def test_the_last_wrestler_of_six_may_have_a_bout(self):
        self.assertEqual(last(standing([0] * 6, [(5, 0), (0, 5)])), [1])

    def test_one_that_is_not_there_is_refused(self):
        for absent in (2, 3, 6, 7, GREATEST):
            with self.subTest(absent=absent):
                expect_refusal(self, standing([4, 5], [(0, 1)]), bout(absent, 0), -2)
                expect_refusal(self, standing([4, 5], [(0, 1)]), bout(1, absent), -2)

    def test_one_is_there_only_behind_its_own_call(self):
        self.assertEqual(ask([wrestler(1), bout(0, 1), wrestler(1), bout(0, 1)]), [[0], [-2], [1], [0]])

    def test_both_the_same_are_refused(self):
        for who in (0, 1, 2):
            with self.subTest(who=who):
                expect_refusal(self, standing([4, 5, 6], [(2, 1)]), bout(who, who), -4)

    def test_the_tenth_is_refused(self):
        for pair in ((0, 1), (3, 2)):
            with self.subTest(pair=pair):
                expect_refusal(self, standing([1, 2, 3, 4], NINE), bout(*pair), -5)

    def test_both_the_same_and_not_there_are_refused_as_not_there(self):
        expect_refusal(self, standing([4, 5], []), bout(2, 2), -2)
        expect_refusal(self, [], bout(0, 0), -2)
        expect_refusal(self, [], bout(GREATEST, GREATEST), -2)

    def test_the_tenth_with_another_fault_is_refused_for_that(self):
        full = standing([1, 2, 3, 4], NINE)
        expect_refusal(self, full, bout(4, 0), -2)
        expect_refusal(self, full, bout(0, 4), -2)
        expect_refusal(self, full, bout(4, 4), -2)
        expect_refusal(self, full, bout(3, 3), -4)

    def test_refused_ones_take_no_number_and_no_room(self):
        calls = standing([1, 2], [(0, 0), (0, 2), (2, 2)] * 3 + [(0, 1)] * 9)
        self.assertEqual(ask(calls)[2:], [[-4], [-2], [-2]] * 3 + [[number] for number in range(9)])


if __name__ == "__main__":
    unittest.main()
