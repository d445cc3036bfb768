"""All states in one walk from nothing on, and what is read off it: orders, paths, a plan."""

from learntpath.states import taught, things_in, things_next


def rules_needing(rules, thing):
    """The rules that only those can use who know the thing."""
    return [rule for rule in rules if ((rule[1] >> thing) & 1) == 1]


def states_behind(level, openers):
    """From the states with so many things those with one more; each with what can be learnt next in it."""
    behind = {}
    for state, found in level.items():
        for thing in things_in(found):
            grown = state | (1 << thing)
            if grown not in behind:
                # What could be learnt before still can; only rules that need the thing come in with it.
                behind[grown] = (found | taught(openers[thing], grown)) & ~grown
    return behind


def nexts_by_state(rules, amount):
    """Each state, with what can be learnt next in it; those with fewer things come first."""
    openers = [rules_needing(rules, thing) for thing in range(amount)]
    nexts = {}
    level = {0: taught(rules, 0)}
    while len(level) > 0:
        nexts.update(level)
        level = states_behind(level, openers)
    return nexts


def ways_by_state(nexts):
    """For each state, in how many ways the rest of what can be learnt is learnt from it on."""
    ways = {}
    # Backward, so that the states one thing further on are counted already.
    for state in reversed(list(nexts)):
        further = [ways[state | (1 << thing)] for thing in things_in(nexts[state])]
        ways[state] = sum(further) if len(further) > 0 else 1
    return ways


def order_behind(nexts, ways, before):
    """The order with so many orders before it; there must be more than these."""
    order = []
    state = 0
    left = before
    while nexts[state] != 0:
        for thing in things_in(nexts[state]):
            grown = state | (1 << thing)
            if left < ways[grown]:
                order.append(thing)
                state = grown
                break
            left = left - ways[grown]
    return order


def lasts_by_state(nexts):
    """Each state, with the things that can be the last one learnt of it."""
    lasts = {0: 0}
    for state, found in nexts.items():
        for thing in things_in(found):
            grown = state | (1 << thing)
            lasts[grown] = lasts.get(grown, 0) | (1 << thing)
    return lasts


def paths_by_thing(nexts, amount):
    """For each thing the paths to it, rising by their numbers."""
    lasts = lasts_by_state(nexts)
    paths = [[] for thing in range(amount)]
    for state in sorted(lasts):
        endings = things_in(lasts[state])
        # Where another thing could be left out, a smaller state would have this one still.
        if len(endings) == 1:
            paths[endings[0]].append(state)
    return paths


def cheapest(choices, costs, amount, before):
    """Of some things, rising, the one that costs least with so many learnt before it, of these the least."""
    # min keeps the foremost of those that cost the same.
    return min(choices, key=lambda thing: costs[thing * amount + before])


def planned_order(rules, amount, costs):
    """The order that takes each time what costs least; costs has a row of amount numbers a thing."""
    order = []
    state = 0
    found = things_next(rules, state)
    while found != 0:
        thing = cheapest(things_in(found), costs, amount, len(order))
        order.append(thing)
        state = state | (1 << thing)
        found = things_next(rules, state)
    return order
