"""The interface: one list of calls about one standing, and one list of their answers."""

from stillfirst.state import Standing

BEGINS = 0
WRESTLER = 1
BOUT = 2
CHECK = 3
CAN = 4
ODDS = 5
NEEDS = 6

# For each call how many numbers it has behind its own, without an outcome but with its count.
PLAIN_NUMBERS = (0, 1, 2, 1, 1, 1, 1)


def answers(calls):
    """For each call, in order, how many numbers are answered, then these."""
    standing = Standing()
    told = []
    place = 0
    while place < len(calls):
        behind = place_behind(calls, place)
        numbers = answer_of_call(standing, calls[place], calls[place + 1:behind])
        told.append(len(numbers))
        told.extend(numbers)
        place = behind
    return told


def place_behind(calls, place):
    """The place behind the last number of the call that begins at this place."""
    call = calls[place]
    behind = place + 1 + PLAIN_NUMBERS[call]
    if call == CHECK:
        return behind + calls[place + 1]
    return behind


def answer_of_call(standing, call, handed):
    """The numbers that the standing answers to this call, with what is handed to it."""
    if call == BEGINS:
        return standing.begins()
    if call == WRESTLER:
        return standing.wrestler(handed[0])
    if call == BOUT:
        return standing.bout(handed[0], handed[1])
    if call == CHECK:
        # The first number counts the outcome and is no part of it.
        return standing.check(handed[1:])
    if call == CAN:
        return standing.can(handed[0])
    if call == ODDS:
        return standing.odds(handed[0])
    return standing.needs(handed[0])
