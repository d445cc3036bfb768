"""What each call answers: the number first, then what is told; a refusal is alone."""

from learntpath.learning import MOST_RULES, MOST_THINGS
from learntpath.states import greatest_state, is_state, things_last, things_next


def reply_begin(learning, numbers):
    """Promise 1."""
    learning.restart(0)
    return [0]


def reply_things(learning, numbers):
    """Promise 2."""
    amount = numbers[0]
    if amount < 0 or amount > MOST_THINGS:
        return [-1]
    learning.restart(amount)
    return [0]


def reply_rule(learning, numbers):
    """Promise 3."""
    thing = numbers[0]
    needed = numbers[1]
    if not learning.takes_rule(thing, needed):
        return [-1]
    if len(learning.rules) >= MOST_RULES:
        return [-2]
    learning.rules.append((thing, needed))
    return [len(learning.rules)]


def reply_is(learning, numbers):
    """Promise 4."""
    known = numbers[0]
    if not learning.holds(known):
        return [-1]
    return [1 if is_state(learning.rules, known) else 0]


def reply_most(learning, numbers):
    """Promise 5."""
    within = numbers[0]
    if not learning.holds(within):
        return [-1]
    return [0, greatest_state(learning.rules, within)]


def state_refusal(learning, known):
    """The refusal where a call asks for a state, 0 if it is one."""
    if not learning.holds(known):
        return -1
    if not is_state(learning.rules, known):
        return -2
    return 0


def reply_next(learning, numbers):
    """Promise 6."""
    refusal = state_refusal(learning, numbers[0])
    if refusal < 0:
        return [refusal]
    return [0, things_next(learning.rules, numbers[0])]


def reply_last(learning, numbers):
    """Promise 7."""
    refusal = state_refusal(learning, numbers[0])
    if refusal < 0:
        return [refusal]
    return [0, things_last(learning.rules, numbers[0])]


REPLIES = {
    0: reply_begin,
    1: reply_things,
    2: reply_rule,
    3: reply_is,
    4: reply_most,
    5: reply_next,
    6: reply_last,
}


def reply_to(number, learning, numbers):
    """The answer to the call of this number, with the numbers that stand behind it."""
    reply = REPLIES[number]
    return reply(learning, numbers)
