"""The desk: takes the calls on one new object as a row of numbers, gives back the answers."""

from learntpath.learning import Learning
from learntpath.replies import reply_to

# How many whole numbers stand behind a call's number.
WIDTHS = {0: 0, 1: 1, 2: 2, 3: 1, 4: 1, 5: 1, 6: 1}


def answers(calls):
    """For each call in turn: how many numbers are answered, then these."""
    learning = Learning()
    told = []
    at = 0
    while at < len(calls):
        number = calls[at]
        end = at + 1 + WIDTHS[number]
        answer = reply_to(number, learning, calls[at + 1:end])
        told.append(len(answer))
        told.extend(answer)
        at = end
    return told
