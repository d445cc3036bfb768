"""The object that the calls are made on: how many things there are, and the rules."""

MOST_THINGS = 16
MOST_RULES = 256


class Learning:
    """Things to be learnt; new, it has no things and no rules."""

    def __init__(self):
        self.amount = 0
        self.rules = []

    def restart(self, amount):
        """Have so many things, and no rules."""
        self.amount = amount
        self.rules = []

    def has_thing(self, thing):
        """Whether there is a thing of this number."""
        return 0 <= thing and thing < self.amount

    def holds(self, things):
        """Whether a set has only things that there are."""
        return (things >> self.amount) == 0

    def takes_rule(self, thing, needed):
        """Whether a rule has the right form, however many rules there are."""
        # has_thing stands first: one can't shift by a thing below 0.
        return self.has_thing(thing) and self.holds(needed) and ((needed >> thing) & 1) == 0
