"""What the tests share: how a call is told, and what is answered to several of them."""

from stillfirst.standings import answers

GREATEST = 4294967295


def begins():
    return [0]


def wrestler(wins):
    return [1, wins]


def bout(one, other):
    return [2, one, other]


def check(*outcome):
    return [3, len(outcome), *outcome]


def can(who):
    return [4, who]


def odds(who):
    return [5, who]


def needs(who):
    return [6, who]


def standing(wins, bouts):
    """The calls that tell a whole standing: a list of calls."""
    return [wrestler(so_far) for so_far in wins] + [bout(*pair) for pair in bouts]


def flat(calls):
    return [number for call in calls for number in call]


def ask(calls):
    """One list of numbers for each call: what it answers, without the count."""
    given = answers(flat(calls))
    told = []
    place = 0
    while place < len(given):
        behind = place + 1 + given[place]
        if given[place] < 1 or behind > len(given):
            raise AssertionError(f"not counted as promised at {place}: {given}")
        told.append(given[place + 1:behind])
        place = behind
    if len(told) != len(calls):
        raise AssertionError(f"{len(told)} answers to {len(calls)} calls: {given}")
    return told


def last(calls):
    """What the last of the calls answers."""
    return ask(calls)[-1]


def expect_refusal(test, before, refused, code):
    """The call is refused with the code, and what comes then is answered as without it."""
    bouts_there = sum(1 for answer, call in zip(ask(before), before) if call[0] == 2 and answer[0] >= 0)
    behind = [
        check(*[0] * bouts_there),
        check(*[1] * bouts_there),
        bout(0, 1),
        wrestler(7),
        check(*[0] * bouts_there),
        check(*[1] * (bouts_there + 1)),
        can(0),
        odds(0),
        needs(1),
    ]
    with_it = ask(before + [refused] + behind)
    test.assertEqual(with_it[len(before)], [code])
    test.assertEqual(with_it[:len(before)] + with_it[len(before) + 1:], ask(before + behind))
