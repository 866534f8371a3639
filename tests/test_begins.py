import unittest

from asking import ask, begins, bout, check, standing, wrestler


class Begins(unittest.TestCase):

    def test_it_answers_0(self):
        self.assertEqual(ask([begins()]), [[0]])

    def test_several_in_a_row_answer_0_each(self):
        self.assertEqual(ask([begins()] * 60), [[0]] * 60)

    def test_in_the_middle_it_takes_all_wrestlers_and_bouts_away(self):
        calls = standing([3, 4], [(0, 1)]) + [begins(), check(), check(0), bout(0, 1)]
        self.assertEqual(ask(calls)[3:], [[0], [0], [-1], [-2]])

    def test_behind_it_the_numbers_begin_at_0_again(self):
        calls = standing([3, 4], [(0, 1), (1, 0)]) + [begins()] + standing([5, 6], [(1, 0)])
        self.assertEqual(ask(calls), [[0], [1], [0], [1], [0], [0], [1], [0]])
        self.assertEqual(ask(calls + [check(1)])[-1], [1, 5, 7])

    def test_it_makes_room_in_a_full_standing(self):
        full = standing([0] * 6, [(0, 1)] * 9)
        again = ask(full + [begins()] + full)
        self.assertEqual(again, ask(full) + [[0]] + ask(full))

    def test_a_list_whose_first_call_is_not_begins_has_no_wrestlers(self):
        self.assertEqual(ask([bout(0, 1)]), [[-2]])
        self.assertEqual(ask([check()]), [[0]])
        self.assertEqual(ask([wrestler(2)]), [[0]])


if __name__ == "__main__":
    unittest.main()
