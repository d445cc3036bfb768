"""The desk: takes the calls on one new object as a row of numbers, gives back the answers."""

from learntpath.learning import Learning
from learntpath.replies import reply_begin, reply_is, reply_last, reply_most
from learntpath.replies import reply_next, reply_rule, reply_things

# By a call's number: what answers it, and how many whole numbers stand behind its number.
CALLS = {
    0: (reply_begin, 0),
    1: (reply_things, 1),
    2: (reply_rule, 2),
    3: (reply_is, 1),
    4: (reply_most, 1),
    5: (reply_next, 1),
    6: (reply_last, 1),
}


def answers(calls):
    """For each call in turn: how many numbers are answered, then these."""
    learning = Learning()
    told = []
    at = 0
    while at < len(calls):
        entry = CALLS[calls[at]]
        reply = entry[0]
        end = at + 1 + entry[1]
        answer = reply(learning, calls[at + 1:end])
        told.append(len(answer))
        told.extend(answer)
        at = end
    return told
