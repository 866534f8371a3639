"""What an outcome makes of a standing: the wins in the end, and who is first by them."""


def is_outcome(numbers, bouts):
    """Whether the numbers tell 0 or 1 for each of the bouts, and no more than that."""
    if len(numbers) != len(bouts):
        return False
    for number in numbers:
        if number not in (0, 1):
            return False
    return True


def wins_in_the_end(wins, bouts, outcome):
    """For each wrestler the wins so far and those of the outcome, as a new list."""
    ends = list(wins)
    for pair, won in zip(bouts, outcome):
        winner = pair[0] if won == 1 else pair[1]
        ends[winner] += 1
    return ends


def how_many_first(ends):
    """How many wrestlers there are of whom nobody has more wins in the end."""
    # With no wrestlers there is no most, and nobody is first.
    return ends.count(max(ends, default=0))
