"""The desk: takes the calls on one new object as a row of numbers, gives back the answers."""

from learntpath.learning import Learning
from learntpath.replies import reply_to

# How many whole numbers stand behind a call's number; the last of plan's says how many costs follow.
WIDTHS = {0: 0, 1: 1, 2: 2, 3: 1, 4: 1, 5: 1, 6: 1, 7: 0, 8: 0, 9: 2, 10: 2, 11: 1, 12: 1, 13: 2}
PLAN = 13


def call_end(calls, at):
    """Where the call that begins at a place ends."""
    end = at + 1 + WIDTHS[calls[at]]
    if calls[at] == PLAN:
        end = end + calls[end - 1]
    return end


def answers(calls):
    """For each call in turn: how many numbers are answered, then these."""
    learning = Learning()
    told = []
    at = 0
    while at < len(calls):
        end = call_end(calls, at)
        answer = reply_to(calls[at], learning, calls[at + 1:end])
        told.append(len(answer))
        told.extend(answer)
        at = end
    return told
