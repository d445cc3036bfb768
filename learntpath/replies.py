"""What each call answers: the number first, then what is told; a refusal is alone."""

from learntpath.learning import MOST_RULES, MOST_THINGS
from learntpath.states import corners_of, greatest_state, hull_of, is_state, things_last, things_next
from learntpath.walks import order_behind, planned_order

MOST_SETS = 65536


def reply_begin(learning, numbers):
    """Promise 1."""
    learning.restart(0)
    return [0]


def reply_things(learning, numbers):
    """Promise 2."""
    amount = numbers[0]
    if amount < 0 or amount > MOST_THINGS:
        return [-1]
    learning.restart(amount)
    return [0]


def reply_rule(learning, numbers):
    """Promise 3."""
    thing = numbers[0]
    needed = numbers[1]
    if not learning.takes_rule(thing, needed):
        return [-1]
    if len(learning.rules) >= MOST_RULES:
        return [-2]
    learning.add_rule(thing, needed)
    return [len(learning.rules)]


def reply_is(learning, numbers):
    """Promise 4."""
    known = numbers[0]
    if not learning.holds(known):
        return [-1]
    return [1 if is_state(learning.rules, known) else 0]


def reply_most(learning, numbers):
    """Promise 5."""
    within = numbers[0]
    if not learning.holds(within):
        return [-1]
    return [0, greatest_state(learning.rules, within)]


def state_refusal(learning, known):
    """The refusal where a call asks for a state, 0 if it is one."""
    if not learning.holds(known):
        return -1
    if not is_state(learning.rules, known):
        return -2
    return 0


def reply_next(learning, numbers):
    """Promise 6."""
    refusal = state_refusal(learning, numbers[0])
    if refusal < 0:
        return [refusal]
    return [0, things_next(learning.rules, numbers[0])]


def reply_last(learning, numbers):
    """Promise 7."""
    refusal = state_refusal(learning, numbers[0])
    if refusal < 0:
        return [refusal]
    return [0, things_last(learning.rules, numbers[0])]


def first_of(told, most, limit):
    """The first most of what could be told, nothing where most is outside 1 to limit."""
    if most < 1 or most > limit:
        return []
    return told[:most]


def reply_count(learning, numbers):
    """Promise 8."""
    return [len(learning.all_nexts())]


def reply_orders(learning, numbers):
    """Promise 9: as many as there are ways from nothing on."""
    return [0, learning.all_ways()[0]]


def reply_order(learning, numbers):
    """Promise 10."""
    before = numbers[0]
    ways = learning.all_ways()
    if before >= ways[0]:
        return [-2]
    order = order_behind(learning.all_nexts(), ways, before)
    return [len(order)] + first_of(order, numbers[1], MOST_THINGS)


def reply_paths(learning, numbers):
    """Promise 11."""
    thing = numbers[0]
    if not learning.has_thing(thing):
        return [-1]
    paths = learning.all_paths()[thing]
    return [len(paths)] + first_of(paths, numbers[1], MOST_SETS)


def reply_hull(learning, numbers):
    """Promise 12."""
    known = numbers[0]
    if not learning.holds(known):
        return [-1]
    return [0, hull_of(learning.rules, learning.everything(), known)]


def reply_corners(learning, numbers):
    """Promise 13."""
    known = numbers[0]
    if not learning.holds(known):
        return [-1]
    return [0, corners_of(learning.rules, learning.everything(), known)]


def reply_plan(learning, numbers):
    """Promise 14; ahead of the costs stand most, and how many costs there are."""
    costs = numbers[2:]
    if len(costs) != learning.amount * learning.amount:
        return [-1]
    order = planned_order(learning.rules, learning.amount, costs)
    return [len(order)] + first_of(order, numbers[0], MOST_THINGS)


REPLIES = {
    0: reply_begin,
    1: reply_things,
    2: reply_rule,
    3: reply_is,
    4: reply_most,
    5: reply_next,
    6: reply_last,
    7: reply_count,
    8: reply_orders,
    9: reply_order,
    10: reply_paths,
    11: reply_hull,
    12: reply_corners,
    13: reply_plan,
}


def reply_to(number, learning, numbers):
    """The answer to the call of this number, with the numbers that stand behind it."""
    reply = REPLIES[number]
    return reply(learning, numbers)
