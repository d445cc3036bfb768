"""Lists that mix all fourteen calls, held against the document's words one by one."""

import random
import unittest

from by_words import Words
from desk_calls import BEGIN, COUNT, FULL, GREATEST, HIGHEST, LEAST, ORDERS, corners, first_difference, hull, is_
from desk_calls import joined, last, most, next_, order, paths, plan, rule, split, things
from learntpath.desk import answers


class Source:
    """Calls drawn from a seed: mostly such as are answered, with some of each refusal among them."""

    def __init__(self, seed):
        self.drawn = random.Random(seed)
        self.n = 0

    def any_set(self):
        if self.drawn.randrange(12) == 0:
            return self.drawn.choice([1 << self.n, FULL, FULL - 1, 1 << 31, self.drawn.randrange(FULL + 1)])
        return self.drawn.randrange(1 << self.n)

    def any_thing(self):
        if self.n == 0 or self.drawn.randrange(12) == 0:
            return self.drawn.choice([-1, self.n, self.n + 1, LEAST, GREATEST])
        return self.drawn.randrange(self.n)

    def any_first(self):
        return self.drawn.choice([LEAST, -1, 0, 1, 2, 3, 16, 16, 16, 17, 65536, 65537, GREATEST])

    def any_costs(self):
        amount = self.n * self.n + self.drawn.choice([0] * 6 + [-1, 1, self.n])
        return [self.drawn.choice([0, 1, 2, 3, FULL - 1, FULL]) for k in range(max(0, amount))]

    def any_rule(self):
        x = self.any_thing()
        s = self.any_set() & self.any_set()
        return rule(x, s if x < 0 or self.drawn.randrange(9) == 0 else s & ~(1 << min(x, 40)))

    def things_again(self):
        n = self.drawn.choice([0, 1, 2, 3, 4, 5, 5, 6, 6, 17, -1])
        if 0 <= n <= 16:
            self.n = n
        return things(n)

    def begin_again(self):
        self.n = 0
        return BEGIN

    def call(self):
        kind = self.drawn.randrange(40)
        if kind == 0:
            return self.begin_again()
        if kind <= 2 or self.n == 0 and kind <= 20:
            return self.things_again()
        if kind <= 18:
            return self.any_rule()
        asked = (COUNT, ORDERS, order(self.drawn.choice([0, 1, 2, 5, 20, 100, HIGHEST]), self.any_first()),
                 paths(self.any_thing(), self.any_first()), hull(self.any_set()), corners(self.any_set()),
                 plan(self.any_costs(), self.any_first()), is_(self.any_set()), most(self.any_set()),
                 next_(self.any_set()), last(self.any_set()))
        return self.drawn.choice(asked)


class ByTheWords(unittest.TestCase):
    def check(self, calls):
        line = joined(calls)
        before = list(line)
        told = answers(line)
        self.assertEqual(first_difference(line, before), None)
        words = Words()
        wanted = [words.answer(call) for call in calls]
        self.assertIsNone(first_difference(list(zip(calls, split(told))), list(zip(calls, wanted))))
        self.assertEqual(len(split(told)), len(calls))
        self.assertEqual(first_difference(answers(line), told), None)

    def test_lists_of_all_calls(self):
        seen = set()
        for seed in range(40):
            source = Source(seed)
            calls = [BEGIN, *[source.call() for k in range(60)]]
            seen |= {call[0] for call in calls}
            self.check(calls)
        self.assertEqual(seen, set(range(14)))

    def test_lists_of_three_hundred_calls(self):
        for seed in range(100, 104):
            source = Source(seed)
            self.check([BEGIN, *[source.call() for k in range(299)]])

    def test_every_set_of_small_families(self):
        for seed in range(200, 260):
            source = Source(seed)
            source.n = 1 + seed % 5
            start = [BEGIN, things(source.n), *[source.any_rule() for k in range(source.n * 3)]]
            asked = [call for s in range(1 << source.n) for call in (hull(s), corners(s))]
            asked += [paths(x, 65536) for x in range(source.n)]
            asked += [COUNT, ORDERS, *[order(k, 16) for k in range(121)], plan(source.any_costs(), 16)]
            self.check([*start, *asked])


if __name__ == "__main__":
    unittest.main()
