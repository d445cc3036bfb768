"""The document's words one by one, slow and plain, to hold the program's answers against."""

import itertools


class Words:
    """Answers each call, given as its numbers, by the words alone."""

    def __init__(self):
        self.n = 0
        self.rules = []
        self.found = None

    def answer(self, call):
        names = ("begin", "things", "rule", "is_", "most", "next", "last", "count", "orders", "order", "paths",
                 "hull", "corners", "plan")
        return getattr(self, names[call[0]])(*call[1:])

    def states(self):
        """From nothing on, by learning one thing after another, each by some rule."""
        if self.found is None:
            self.found = {0}
            fresh = [0]
            while fresh:
                state = fresh.pop()
                for x, s in self.rules:
                    if s & ~state == 0 and state | 1 << x not in self.found:
                        self.found.add(state | 1 << x)
                        fresh.append(state | 1 << x)
        return self.found

    def greatest(self, s):
        within = [state for state in self.states() if state & ~s == 0]
        found = [state for state in within if all(other & ~state == 0 for other in within)]
        if len(found) != 1:
            raise AssertionError(f"no greatest state within {s}")
        return found[0]

    def all_orders(self):
        """The ways to learn all that can be learnt, as they come one before another."""
        everything = [x for x in range(self.n) if self.greatest(self.all()) >> x & 1]
        found = []
        for way in itertools.permutations(everything):
            known = 0
            for x in way:
                if not any(x == y and s & ~known == 0 for y, s in self.rules):
                    break
                known |= 1 << x
            else:
                found.append(list(way))
        return sorted(found)

    def all(self):
        return (1 << self.n) - 1

    def has(self, s):
        return s <= self.all()

    def hull_of(self, s):
        return self.all() & ~self.greatest(self.all() & ~s)

    def begin(self):
        self.__init__()
        return [0]

    def things(self, n):
        if not 0 <= n <= 16:
            return [-1]
        self.__init__()
        self.n = n
        return [0]

    def rule(self, x, s):
        if not 0 <= x < self.n or not self.has(s) or s >> x & 1:
            return [-1]
        if len(self.rules) == 256:
            return [-2]
        self.rules.append((x, s))
        self.found = None
        return [len(self.rules)]

    def is_(self, s):
        return [int(s in self.states())] if self.has(s) else [-1]

    def most(self, s):
        return [0, self.greatest(s)] if self.has(s) else [-1]

    def next(self, s):
        if not self.has(s):
            return [-1]
        if s not in self.states():
            return [-2]
        return [0, sum({1 << x for x, t in self.rules if not s >> x & 1 and t & ~s == 0})]

    def last(self, s):
        if not self.has(s):
            return [-1]
        if s not in self.states():
            return [-2]
        return [0, sum(1 << x for x in range(self.n) if s >> x & 1 and s - (1 << x) in self.states())]

    def count(self):
        return [len(self.states())]

    def orders(self):
        return [0, len(self.all_orders())]

    def order(self, k, most):
        found = self.all_orders()
        if k >= len(found):
            return [-2]
        return [len(found[k]), *(found[k][:most] if 1 <= most <= 16 else [])]

    def paths(self, x, most):
        if not 0 <= x < self.n:
            return [-1]
        having = sorted(state for state in self.states() if state >> x & 1)
        found = [state for state in having if not any(o != state and o & ~state == 0 for o in having)]
        return [len(found), *(found[:most] if 1 <= most <= 65536 else [])]

    def hull(self, s):
        return [0, self.hull_of(s)] if self.has(s) else [-1]

    def corners(self, s):
        if not self.has(s):
            return [-1]
        hull = self.hull_of(s)
        without = [(1 << x, hull - (1 << x)) for x in range(self.n) if hull >> x & 1]
        return [0, sum(bit for bit, rest in without if self.hull_of(rest) == rest)]

    def plan(self, most, m, *costs):
        if m != self.n * self.n:
            return [-1]
        rows = [costs[x * self.n:(x + 1) * self.n] for x in range(self.n)]
        known = 0
        way = []
        while known != self.greatest(self.all()):
            free = [x for x in range(self.n) if self.next(known)[1] >> x & 1]
            way.append(sorted(free, key=lambda x: (rows[x][len(way)], x))[0])
            known |= 1 << way[-1]
        return [len(way), *(way[:most] if 1 <= most <= 16 else [])]
