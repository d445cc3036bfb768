"""The calls by name, and a list of calls answered as one list an answer."""

from learntpath.desk import answers

FULL = 4294967295
HIGHEST = 18446744073709551615
LEAST = -2147483648
GREATEST = 2147483647

BEGIN = [0]


def things(n):
    return [1, n]


def rule(x, s):
    return [2, x, s]


def is_(s):
    return [3, s]


def most(s):
    return [4, s]


def next_(s):
    return [5, s]


def last(s):
    return [6, s]


COUNT = [7]
ORDERS = [8]


def order(k, first):
    return [9, k, first]


def paths(x, first):
    return [10, x, first]


def hull(s):
    return [11, s]


def corners(s):
    return [12, s]


def plan(costs, first):
    return [13, first, len(costs), *costs]


def free(n):
    """So many things, each of which can be learnt from nothing."""
    return [things(n), *[rule(x, 0) for x in range(n)]]


def chain(n):
    """Each thing by whoever knows the one before it, the last one's rule foremost."""
    return [things(n), *[rule(x, 1 << (x - 1)) for x in range(n - 1, 0, -1)], rule(0, 0)][:n + 1]


# 0 from nothing; 1 from nothing; 2 by whoever knows 0, or 1; 3 by whoever knows 1 and 2.
# 4 only by whoever knows 5, and 5 only by whoever knows 4; nothing teaches 6.
MIXED = [things(7), rule(3, 6), rule(2, 2), rule(2, 1), rule(1, 0), rule(0, 0), rule(4, 32), rule(5, 16)]


def bits(*numbers):
    """The set of these things."""
    total = 0
    for number in numbers:
        total |= 1 << number
    return total


def joined(calls):
    return [number for call in calls for number in call]


def split(told):
    """The flat answer, cut by the count ahead of each answer."""
    rows = []
    at = 0
    while at < len(told):
        end = at + 1 + told[at]
        if end > len(told):
            raise AssertionError(f"answer cut short: {told}")
        rows.append(told[at + 1:end])
        at = end
    return rows


def first_difference(given, wanted):
    """Where two lists part, None if they don't; unittest's own diff of long lists takes minutes."""
    for at in range(max(len(given), len(wanted))):
        if given[at:at + 1] != wanted[at:at + 1]:
            return (at, given[at:at + 1], wanted[at:at + 1])
    return None


def ask(*calls):
    """One answer for each call of one list, which begin stands ahead of (left out)."""
    rows = split(answers(joined([BEGIN, *calls])))
    if len(rows) != len(calls) + 1 or rows[0] != [0]:
        raise AssertionError(f"not one answer a call: {rows}")
    return rows[1:]


def ask_last(*calls):
    """The answer of the last of these calls."""
    return ask(*calls)[-1]


def told_of(start, calls):
    """The answers of the calls behind a start."""
    return ask(*start, *calls)[len(start):]
