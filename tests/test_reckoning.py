"""The calls can, odds and needs against another reckoning, straight by the document's words."""

import itertools
import time
import unittest

from asking import ask, begins, bout, can, check, flat, needs, odds, standing, wrestler
from stillfirst.standings import answers


class ByTheWords:
    """One standing, and what the document's words make of it."""

    def __init__(self, wins, bouts):
        self.wins = wins
        self.bouts = bouts
        self.everyone = range(len(wins))
        # For each outcome how many bouts each one wins by it.
        self.won = {}
        for outcome in itertools.product((0, 1), repeat=len(bouts)):
            winners = [one if told else other for told, (one, other) in zip(outcome, bouts)]
            self.won[outcome] = [winners.count(who) for who in self.everyone]

    def end(self, outcome, who):
        return self.wins[who] + self.won[outcome][who]

    def others(self, who):
        return [other for other in self.everyone if other != who]

    def is_first(self, outcome, who):
        return not any(self.end(outcome, other) > self.end(outcome, who) for other in self.others(who))

    def is_first_alone(self, outcome, who):
        return not any(self.end(outcome, other) >= self.end(outcome, who) for other in self.others(who))

    def bouts_left(self, who):
        return sum(1 for one, other in self.bouts if one == who or other == who)

    def stands_in_the_way(self, number, who):
        members = {k for k in self.everyone if number & 2 ** k}
        wins_so_far = sum(self.wins[k] for k in members)
        bouts_of_two = sum(1 for pair in self.bouts if members.issuperset(pair))
        could_have = self.wins[who] + self.bouts_left(who)
        return who not in members and wins_so_far + bouts_of_two > len(members) * could_have

    def can(self, who):
        # Of two tuples of 0 and 1 Python's lesser one is the document's earlier one.
        by_these = [outcome for outcome in self.won if self.is_first(outcome, who)]
        in_the_way = [number for number in range(2 ** len(self.wins)) if self.stands_in_the_way(number, who)]
        if bool(by_these) == bool(in_the_way):
            raise AssertionError(f"the document's last sentence is broken by {self.wins}, {self.bouts}, {who}")
        return [1, *min(by_these)] if by_these else [0, min(in_the_way)]

    def odds(self, who):
        first = sum(1 for outcome in self.won if self.is_first(outcome, who))
        alone = sum(1 for outcome in self.won if self.is_first_alone(outcome, who))
        return [alone, first - alone, len(self.won)]

    def needs(self, who):
        for enough in range(self.bouts_left(who) + 1):
            so_many = [outcome for outcome, won in self.won.items() if won[who] >= enough]
            if all(self.is_first(outcome, who) for outcome in so_many):
                return [enough]
        return [-6]

    def all_three(self, who):
        return [self.can(who), self.odds(who), self.needs(who)]


def spread(seed):
    """Numbers from 0 to 32767 without end, the same ones each time."""
    while True:
        seed = (seed * 1103515245 + 12345) % 2 ** 31
        yield seed // 2 ** 16


def spread_standings(many, wrestlers, bouts, wins):
    """So many standings of this size, the wins from the least to the most that are told."""
    least, most = wins
    numbers = spread(wrestlers * 10 + bouts)
    pairs = list(itertools.permutations(range(wrestlers), 2))
    for _ in range(many):
        yield (
            [least + next(numbers) % (most - least + 1) for _ in range(wrestlers)],
            [pairs[next(numbers) % len(pairs)] for _ in range(bouts)],
        )


class AgainstTheWords(unittest.TestCase):

    def compare(self, wins, bouts):
        words = ByTheWords(wins, bouts)
        for who in range(len(wins)):
            told = ask(standing(wins, bouts) + [can(who), odds(who), needs(who)])[-3:]
            self.assertEqual(told, words.all_three(who), (wins, bouts, who))

    def test_all_small_ones_without_bouts(self):
        for many in range(1, 5):
            for wins in itertools.product(range(3), repeat=many):
                self.compare(wins, [])

    def test_all_small_ones_of_two(self):
        for wins in itertools.product(range(5), repeat=2):
            for many in range(1, 5):
                for bouts in itertools.product([(0, 1), (1, 0)], repeat=many):
                    self.compare(wins, bouts)

    def test_all_small_ones_of_three(self):
        pairs = list(itertools.permutations(range(3), 2))
        for wins in itertools.product(range(3), repeat=3):
            for many in range(1, 3):
                for bouts in itertools.product(pairs, repeat=many):
                    self.compare(wins, bouts)

    def test_all_small_ones_of_four(self):
        pairs = list(itertools.combinations(range(4), 2))
        for wins in itertools.product(range(2), repeat=4):
            for bouts in itertools.combinations_with_replacement(pairs, 3):
                self.compare(wins, bouts)

    def test_some_of_each_size(self):
        for wrestlers in range(2, 7):
            for bouts in range(3, 8):
                for wins in ((0, 1), (3, 6), (10, 15)):
                    for told in spread_standings(6, wrestlers, bouts, wins):
                        self.compare(*told)

    def test_some_of_the_largest(self):
        for wins in ((0, 0), (7, 9), (10, 15)):
            for told in spread_standings(8, 6, 9, wins):
                self.compare(*told)


class NothingIsChanged(unittest.TestCase):

    def test_what_is_asked_behind_them_is_answered_as_without_them(self):
        before = standing([11, 11, 9, 5], [(0, 1), (2, 3), (3, 2)])
        asked = [can(2), can(0), odds(1), needs(0), needs(2), can(4)]
        behind = [check(1, 1, 0), bout(1, 2), check(0, 0, 1, 1), wrestler(15), bout(4, 0), check(1, 0, 0, 1, 0)]
        for many in range(1, len(asked) + 1):
            for last_one in (can(2), odds(3), needs(1)):
                with_them = ask(before + asked[:many] + behind + [last_one])
                without_them = ask(before + behind + [last_one])
                self.assertEqual(with_them[:len(before)] + with_them[len(before) + many:], without_them)

    def test_the_same_again_is_answered_the_same(self):
        before = standing([11, 11, 10], [(0, 1), (2, 0), (2, 1)])
        for call in (can(2), can(0), odds(1), odds(2), needs(0), needs(2), can(3)):
            told = ask(before + [call] * 8)[len(before):]
            self.assertEqual(told, [told[0]] * 8)

    def test_they_stand_between_other_calls_and_begin_anew_behind_begins(self):
        calls = standing([11, 11, 9, 5], [(0, 1), (2, 3), (3, 2)])
        asked = [can(2), odds(0), needs(0), check(0, 1, 0)]
        told = ask(calls + asked + [begins()] + calls + asked)
        self.assertEqual(told, told[:11] + [[0]] + told[:11])


class TheLargest(unittest.TestCase):

    def test_eight_calls_end_within_seconds(self):
        bouts = [(0, 1), (1, 2), (2, 3), (3, 4), (4, 5), (5, 0), (0, 2), (1, 3), (2, 4)]
        for wins, asked in (
            ([15, 15, 15, 15, 15, 0], [can(5)] * 8),
            ([9, 9, 9, 9, 9, 9], [can(0), odds(1), needs(2), can(3), odds(4), needs(5), odds(0), can(5)]),
            ([15, 15, 15, 15, 15, 15], [needs(0), needs(1)] * 4),
            ([0, 0, 0, 0, 0, 0], [odds(4), odds(5)] * 4),
        ):
            calls = flat(standing(wins, bouts) + asked)
            began = time.monotonic()
            told = answers(calls)
            self.assertLess(time.monotonic() - began, 5)
            self.assertEqual(told[:30], flat([1, number] for number in [*range(6), *range(9)]))
            words = ByTheWords(wins, bouts)
            names = {4: words.can, 5: words.odds, 6: words.needs}
            expected = [names[call](who) for call, who in asked]
            self.assertEqual(told[30:], flat([len(numbers), *numbers] for numbers in expected))


if __name__ == "__main__":
    unittest.main()
