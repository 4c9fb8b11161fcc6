"""The interface: a list of calls is handed in, the list of their answers is given back."""

from entryhouse.calls import CALLS
from entryhouse.state import House

# The one call that has a row instead of numbers.
RULES = 1

# How many numbers stand behind each call's own.
NUMBERS = (0, 0, 0, 3, 2, 2, 1, 1, 2, 2, 2, 1, 1, 0, 1, 1, 0, 0, 0, 0)


def answers(calls):
    """For each call, in order, how many numbers it answers, and these."""
    return answers_on(House(), calls)


def answers_on(house, calls):
    answered = []
    for call in read_calls(calls):
        told = answer(house, call[0], call[1])
        answered.append(len(told))
        answered.extend(told)
    return answered


def read_calls(calls):
    """The calls one by one, each with the list of what is handed to it."""
    read = []
    at = 0
    while at < len(calls):
        call = calls[at]
        if call == RULES:
            begin = at + 2
            at = begin + calls[at + 1]
            read.append((call, [calls[begin:at]]))
        else:
            begin = at + 1
            at = begin + NUMBERS[call]
            read.append((call, calls[begin:at]))
    return read


def answer(house, call, handed):
    todo = CALLS[call]
    if len(handed) == 0:
        return todo(house)
    if len(handed) == 1:
        return todo(house, handed[0])
    if len(handed) == 2:
        return todo(house, handed[0], handed[1])
    return todo(house, handed[0], handed[1], handed[2])
