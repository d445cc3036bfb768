"""The object that the calls are made on: how many things there are, the rules, and what follows from them."""

from learntpath.states import taught
from learntpath.walks import nexts_by_state, paths_by_thing, ways_by_state

MOST_THINGS = 16
MOST_RULES = 256


class Learning:
    """Things to be learnt; new, it has no things and no rules."""

    def __init__(self):
        self.restart(0)

    def restart(self, amount):
        """Have so many things, and no rules."""
        self.amount = amount
        self.rules = []
        self.forget()

    def add_rule(self, thing, needed):
        """Have one more rule."""
        # Where the set teaches the thing already, all states stay as they are.
        if ((taught(self.rules, needed) >> thing) & 1) == 0:
            self.forget()
        self.rules.append((thing, needed))

    def forget(self):
        """Drop what was worked out from rules that are no longer these."""
        self.nexts = None
        self.ways = None
        self.paths = None

    def has_thing(self, thing):
        """Whether there is a thing of this number."""
        return 0 <= thing and thing < self.amount

    def holds(self, things):
        """Whether a set has only things that there are."""
        return (things >> self.amount) == 0

    def everything(self):
        """The set of all things, also of those that can't be learnt."""
        return (1 << self.amount) - 1

    def takes_rule(self, thing, needed):
        """Whether a rule has the right form, however many rules there are."""
        # has_thing stands first: one can't shift by a thing below 0.
        return self.has_thing(thing) and self.holds(needed) and ((needed >> thing) & 1) == 0

    # There may be 65536 states: what is worked out over all of them is kept until the rules change.

    def all_nexts(self):
        """Each state, with what can be learnt next in it."""
        if self.nexts is None:
            self.nexts = nexts_by_state(self.rules, self.amount)
        return self.nexts

    def all_ways(self):
        """Each state, with how many ways there are to learn the rest."""
        if self.ways is None:
            self.ways = ways_by_state(self.all_nexts())
        return self.ways

    def all_paths(self):
        """The paths to each thing."""
        if self.paths is None:
            self.paths = paths_by_thing(self.all_nexts(), self.amount)
        return self.paths
