"""What outcomes make of a standing: the wins in the end, and who is first by them."""


def is_outcome(numbers, bouts):
    """Whether the numbers tell 0 or 1 for each of the bouts, and no more than that."""
    if len(numbers) != len(bouts):
        return False
    for number in numbers:
        if number not in (0, 1):
            return False
    return True


def wins_in_the_end(wins, bouts, outcome):
    """For each wrestler the wins so far and those of the outcome, as a new list."""
    ends = list(wins)
    for pair, won in zip(bouts, outcome):
        winner = pair[0] if won == 1 else pair[1]
        ends[winner] += 1
    return ends


def how_many_first(ends):
    """How many wrestlers there are of whom nobody has more wins in the end."""
    # With no wrestlers there is no most, and nobody is first.
    return ends.count(max(ends, default=0))


def is_first(ends, who):
    """Whether nobody has more wins in the end than this one."""
    return ends[who] == max(ends)


def all_outcomes(bouts):
    """Every outcome of the bouts, each as a list, the earlier one always ahead."""
    outcomes = [[]]
    for behind in range(len(bouts)):
        # What is put ahead of the others counts most: the 0 goes to the first half.
        outcomes = [[0] + outcome for outcome in outcomes] + [[1] + outcome for outcome in outcomes]
    return outcomes


def earliest_outcome(wins, bouts, who):
    """The earliest outcome by which this one is first, or None if there is no such one."""
    for outcome in all_outcomes(bouts):
        if is_first(wins_in_the_end(wins, bouts, outcome), who):
            return outcome
    return None


def odds_of(wins, bouts, who):
    """In how many outcomes this one is first alone, in how many not alone, and how many there are."""
    outcomes = all_outcomes(bouts)
    alone = 0
    together = 0
    for outcome in outcomes:
        ends = wins_in_the_end(wins, bouts, outcome)
        if is_first(ends, who):
            if how_many_first(ends) == 1:
                alone += 1
            else:
                together += 1
    return [alone, together, len(outcomes)]


def most_won_in_vain(wins, bouts, who):
    """The most bouts that this one wins by an outcome without being first, or None if always first."""
    most = None
    for outcome in all_outcomes(bouts):
        ends = wins_in_the_end(wins, bouts, outcome)
        won = ends[who] - wins[who]
        if not is_first(ends, who) and (most is None or won > most):
            most = won
    return most
