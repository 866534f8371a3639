"""One standing: what is kept of it, and the calls that fill it or ask about it.

Each call gives back the list of the numbers that it answers. A refusal is one
number below 0, alone, and leaves everything as it was.
"""

from stillfirst.outcomes import earliest_outcome, how_many_first, is_outcome
from stillfirst.outcomes import most_won_in_vain, odds_of, wins_in_the_end
from stillfirst.sets import bouts_left, set_in_the_way

MOST_WRESTLERS = 6
MOST_WINS = 15
MOST_BOUTS = 9

WRONG_NUMBER = -1
NOT_THERE = -2
BOTH_THE_SAME = -4
NO_ROOM = -5
NOT_SURE = -6


class Standing:
    """The wrestlers' wins so far, and the bouts that are left, each a pair of wrestlers.

    Of several refusals the one that the document tells first is given, so the
    order of the questions in each call matters.
    """

    def __init__(self):
        self.wins = []
        self.bouts = []

    def begins(self):
        """Take all wrestlers and bouts away."""
        self.wins = []
        self.bouts = []
        return [0]

    def wrestler(self, wins):
        """Add a wrestler with so many wins so far; answer the wrestler's number."""
        if wins > MOST_WINS:
            return [WRONG_NUMBER]
        if len(self.wins) == MOST_WRESTLERS:
            return [NO_ROOM]
        self.wins.append(wins)
        return [len(self.wins) - 1]

    def bout(self, one, other):
        """Add a bout between two wrestlers; answer the bout's number."""
        if not self.is_there(one) or not self.is_there(other):
            return [NOT_THERE]
        if one == other:
            return [BOTH_THE_SAME]
        if len(self.bouts) == MOST_BOUTS:
            return [NO_ROOM]
        self.bouts.append((one, other))
        return [len(self.bouts) - 1]

    def check(self, outcome):
        """Answer how many are first by the outcome, then each one's wins in the end."""
        if not is_outcome(outcome, self.bouts):
            return [WRONG_NUMBER]
        ends = wins_in_the_end(self.wins, self.bouts, outcome)
        return [how_many_first(ends)] + ends

    def can(self, who):
        """Answer 1 and the earliest outcome by which this one is first, or 0 and the set in the way."""
        if not self.is_there(who):
            return [NOT_THERE]
        outcome = earliest_outcome(self.wins, self.bouts, who)
        if outcome is None:
            return [0, set_in_the_way(self.wins, self.bouts, who)]
        return [1] + outcome

    def odds(self, who):
        """Answer how often this one is first alone, how often not alone, and how many outcomes there are."""
        if not self.is_there(who):
            return [NOT_THERE]
        return odds_of(self.wins, self.bouts, who)

    def needs(self, who):
        """Answer how many bouts this one has to win, at the least, to be first whatever else comes."""
        if not self.is_there(who):
            return [NOT_THERE]
        in_vain = most_won_in_vain(self.wins, self.bouts, who)
        if in_vain is None:
            return [0]
        if in_vain == bouts_left(self.bouts, who):
            return [NOT_SURE]
        return [in_vain + 1]

    def is_there(self, who):
        """Whether there is a wrestler of this number."""
        return who < len(self.wins)
