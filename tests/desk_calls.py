"""The calls by name, and a list of calls answered as one list an answer."""

from learntpath.desk import answers

FULL = 4294967295
LEAST = -2147483648
GREATEST = 2147483647

BEGIN = [0]


def things(n):
    return [1, n]


def rule(x, s):
    return [2, x, s]


def is_(s):
    return [3, s]


def most(s):
    return [4, s]


def next_(s):
    return [5, s]


def last(s):
    return [6, s]


def bits(*numbers):
    """The set of these things."""
    total = 0
    for number in numbers:
        total |= 1 << number
    return total


def joined(calls):
    return [number for call in calls for number in call]


def split(told):
    """The flat answer, cut by the count ahead of each answer."""
    rows = []
    at = 0
    while at < len(told):
        end = at + 1 + told[at]
        if end > len(told):
            raise AssertionError(f"answer cut short: {told}")
        rows.append(told[at + 1:end])
        at = end
    return rows


def first_difference(given, wanted):
    """Where two lists part, None if they don't; unittest's own diff of long lists takes minutes."""
    for at in range(max(len(given), len(wanted))):
        if given[at:at + 1] != wanted[at:at + 1]:
            return (at, given[at:at + 1], wanted[at:at + 1])
    return None


def ask(*calls):
    """One answer for each call of one list, which begin stands ahead of (left out)."""
    rows = split(answers(joined([BEGIN, *calls])))
    if len(rows) != len(calls) + 1 or rows[0] != [0]:
        raise AssertionError(f"not one answer a call: {rows}")
    return rows[1:]


def ask_last(*calls):
    """The answer of the last of these calls."""
    return ask(*calls)[-1]
