"""Sets of wrestlers: what they share out, and whether they stand in one's way."""


def bouts_left(bouts, who):
    """How many of the bouts this one has."""
    return len([pair for pair in bouts if who in pair])


def could_have(wins, bouts, who):
    """The wins that this one could have at the most."""
    return wins[who] + bouts_left(bouts, who)


def all_sets(many):
    """Every set of so many wrestlers, as a list of its wrestlers, at the place that is its number."""
    sets = [[]]
    for who in range(many):
        # One more wrestler adds 2 to the power of who: as many as there are sets by now.
        sets = sets + [members + [who] for members in sets]
    return sets


def shares_out(wins, bouts, members):
    """The wins of the members so far, and one more for each bout of two of them."""
    so_far = sum([wins[member] for member in members])
    return so_far + len([pair for pair in bouts if pair[0] in members and pair[1] in members])


def stands_in_the_way(wins, bouts, members, who):
    """Whether this one isn't a member, and one of the members must get more than this one could have."""
    if who in members:
        return False
    return shares_out(wins, bouts, members) > len(members) * could_have(wins, bouts, who)


def set_in_the_way(wins, bouts, who):
    """The lowest number of a set that stands in the way of this one, who can't be first."""
    sets = all_sets(len(wins))
    # There's always one: the document promises it of each that can't be first.
    return min([number for number, members in enumerate(sets) if stands_in_the_way(wins, bouts, members, who)])
