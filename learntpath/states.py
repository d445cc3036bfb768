"""States under rules; a rule is a pair: a thing, and the set that is to be known first."""


def things_in(known):
    """The things of a set, rising."""
    return [thing for thing in range(known.bit_length()) if ((known >> thing) & 1) == 1]


def taught(rules, known):
    """The things that some rule teaches whoever knows the set known, also those in it."""
    things = 0
    for thing, needed in rules:
        if (needed & known) == needed:
            things = things | (1 << thing)
    return things


def greatest_state(rules, within):
    """The greatest state that has nothing outside the set within."""
    state = 0
    grown = taught(rules, state) & within
    # Who knows more is taught no less, so each round keeps what the rounds before it had.
    while grown != state:
        state = grown
        grown = taught(rules, state) & within
    return state


def is_state(rules, known):
    """Whether the set known can be learnt from nothing, one thing after another."""
    return greatest_state(rules, known) == known


def things_next(rules, state):
    """The things outside a state that some rule teaches whoever knows it."""
    return taught(rules, state) & ~state


def things_last(rules, state):
    """The things of a state that can be left out, each by itself, with a state left over."""
    found = 0
    thing = 1
    while thing <= state:
        if (state & thing) != 0 and is_state(rules, state - thing):
            found = found | thing
        thing = thing << 1
    return found


def hull_of(rules, everything, known):
    """All things but those in the greatest state that has nothing of the set known."""
    return everything - greatest_state(rules, everything & ~known)


def corners_of(rules, everything, known):
    """The things of the hull of a set without which that is still convex."""
    outside = everything - hull_of(rules, everything, known)
    # A convex set is what a state leaves: a thing can go where that state, grown by it, is one still.
    return things_next(rules, outside)
