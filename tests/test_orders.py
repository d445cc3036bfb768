"""Promises 8 to 10: count, orders, order."""

import itertools
import math
import unittest

from desk_calls import BEGIN, COUNT, FULL, GREATEST, HIGHEST, LEAST, MIXED, ORDERS
from desk_calls import ask, ask_last, chain, first_difference, free, order, rule, things, told_of

# The orders of MIXED, as they come one before another.
MIXED_ORDERS = [[0, 1, 2, 3], [0, 2, 1, 3], [1, 0, 2, 3], [1, 2, 0, 3], [1, 2, 3, 0]]

# None of these sixteen can be learnt: each wants the one behind it, in a ring.
RING = [things(16), *[rule(x, 1 << (x + 1) % 16) for x in range(16)]]


class Count(unittest.TestCase):
    def test_several_rules_for_one_thing_and_things_never_learnt(self):
        self.assertEqual(ask_last(*MIXED, COUNT), [9])

    def test_no_things(self):
        self.assertEqual(ask(COUNT, things(0), COUNT), [[1], [0], [1]])

    def test_things_without_rules(self):
        for n in (1, 2, 16):
            self.assertEqual(ask_last(things(n), COUNT), [1])

    def test_sixteen_things_of_which_none_can_be_learnt(self):
        self.assertEqual(ask_last(*RING, COUNT), [1])

    def test_sixteen_things_from_nothing(self):
        self.assertEqual(ask_last(*free(16), COUNT), [65536])

    def test_things_from_nothing_with_others_never_learnt(self):
        start = [things(16), *[rule(x, 0) for x in range(3, 8)], rule(0, 2), rule(1, 1)]
        self.assertEqual(ask_last(*start, COUNT), [32])

    def test_a_chain(self):
        for n in (1, 2, 16):
            self.assertEqual(ask_last(*chain(n), COUNT), [n + 1])

    def test_a_state_reached_in_several_ways_is_one(self):
        self.assertEqual(ask_last(things(3), rule(0, 0), rule(1, 0), rule(2, 1), rule(2, 2), COUNT), [7])

    def test_grows_with_each_rule(self):
        told = ask(things(3), COUNT, rule(0, 0), COUNT, rule(1, 1), COUNT, rule(1, 0), COUNT, rule(1, 4), COUNT,
                   rule(2, 0), COUNT)
        self.assertEqual(told[1::2], [[1], [2], [3], [4], [4], [8]])

    def test_new_behind_things_and_begin(self):
        told = ask(*free(3), COUNT, things(3), COUNT, rule(0, 0), COUNT, BEGIN, COUNT, things(1), COUNT)
        self.assertEqual(told[4:], [[8], [0], [1], [1], [2], [0], [1], [0], [1]])

    def test_the_same_behind_refusals(self):
        told = ask(*free(3), COUNT, things(17), rule(3, 0), rule(0, 1), rule(0, 8), COUNT)
        self.assertEqual(told[4:], [[8], [-1], [-1], [-1], [-1], [8]])


class Orders(unittest.TestCase):
    def test_several_rules_for_one_thing_and_things_never_learnt(self):
        self.assertEqual(ask_last(*MIXED, ORDERS), [0, 5])

    def test_no_things(self):
        self.assertEqual(ask(ORDERS, things(0), ORDERS), [[0, 1], [0], [0, 1]])

    def test_nothing_that_can_be_learnt(self):
        for n in (1, 2, 16):
            self.assertEqual(ask_last(things(n), ORDERS), [0, 1])
        self.assertEqual(ask_last(*RING, ORDERS), [0, 1])

    def test_things_from_nothing(self):
        for n in range(1, 11):
            self.assertEqual(ask_last(*free(n), ORDERS), [0, math.factorial(n)])

    def test_sixteen_things_from_nothing(self):
        self.assertEqual(ask_last(*free(16), ORDERS), [0, 20922789888000])

    def test_a_chain(self):
        self.assertEqual(ask_last(*chain(16), ORDERS), [0, 1])

    def test_two_chains(self):
        start = [things(16), rule(0, 0), rule(1, 0), *[rule(x, 1 << (x - 2)) for x in range(2, 16)]]
        self.assertEqual(told_of(start, [COUNT, ORDERS]), [[81], [0, math.comb(16, 8)]])

    def test_grows_with_each_rule(self):
        told = ask(things(3), ORDERS, rule(0, 0), ORDERS, rule(1, 1), ORDERS, rule(1, 0), ORDERS, rule(2, 0), ORDERS)
        self.assertEqual(told[1::2], [[0, 1], [0, 1], [0, 1], [0, 2], [0, 6]])

    def test_new_behind_things_and_begin(self):
        told = ask(*free(3), ORDERS, things(3), ORDERS, BEGIN, ORDERS)
        self.assertEqual(told[4:], [[0, 6], [0], [0, 1], [0], [0, 1]])


class Order(unittest.TestCase):
    def test_each_in_turn(self):
        told = told_of(MIXED, [order(k, 16) for k in range(6)])
        self.assertEqual(told, [*[[4, *way] for way in MIXED_ORDERS], [-2]])

    def test_all_of_things_from_nothing(self):
        ways = [[5, *way] for way in itertools.permutations(range(5))]
        told = told_of(free(5), [order(k, 16) for k in range(121)])
        self.assertIsNone(first_difference(told, [*ways, [-2]]))

    def test_by_things_and_not_by_what_a_rule_came_first(self):
        start = [things(3), rule(2, 0), rule(1, 0), rule(0, 2)]
        told = told_of(start, [order(k, 16) for k in range(4)])
        self.assertEqual(told, [[3, 1, 0, 2], [3, 1, 2, 0], [3, 2, 1, 0], [-2]])

    def test_of_sixteen_things(self):
        told = told_of(free(16), [order(0, 16), order(1, 16), order(20922789887999, 16), order(20922789888000, 16)])
        self.assertEqual(told[0], [16, *range(16)])
        self.assertEqual(told[1], [16, *range(14), 15, 14])
        self.assertEqual(told[2], [16, *range(15, -1, -1)])
        self.assertEqual(told[3], [-2])

    def test_in_the_midst_of_sixteen_things(self):
        # Each place's digit times the factorial of how many come behind it.
        digits = [7, 0, 13, 5, 1, 10, 2, 8, 0, 3, 5, 1, 3, 0, 1, 0]
        left = list(range(16))
        way = [left.pop(digit) for digit in digits]
        k = sum(digit * math.factorial(15 - at) for at, digit in enumerate(digits))
        self.assertEqual(ask_last(*free(16), order(k, 16)), [16, *way])

    def test_not_so_many_orders(self):
        for k in (5, 6, FULL, FULL + 1, HIGHEST - 1, HIGHEST):
            for first in (LEAST, 0, 1, 16, 17, GREATEST):
                with self.subTest(k=k, first=first):
                    self.assertEqual(ask_last(*MIXED, order(k, first)), [-2])
        self.assertEqual(ask_last(*free(16), order(HIGHEST, 16)), [-2])

    def test_the_first_of_them(self):
        wanted = {LEAST: 0, -1: 0, 0: 0, 1: 1, 3: 3, 4: 4, 5: 4, 16: 4, 17: 0, 65536: 0, GREATEST: 0}
        for first, amount in wanted.items():
            with self.subTest(first=first):
                self.assertEqual(ask_last(*MIXED, order(3, first)), [4, *[1, 2, 0, 3][:amount]])

    def test_the_first_of_sixteen(self):
        for first, amount in ((0, 0), (1, 1), (15, 15), (16, 16), (17, 0)):
            self.assertEqual(ask_last(*chain(16), order(0, first)), [16, *range(amount)])

    def test_nothing_that_can_be_learnt(self):
        for start in ([], [things(0)], [things(16)], RING):
            told = told_of(start, [order(0, 16), order(0, 0), order(0, 17), order(1, 16), order(HIGHEST, 16)])
            self.assertEqual(told, [[0], [0], [0], [-2], [-2]])

    def test_changes_with_the_rules(self):
        told = ask(things(2), order(0, 16), rule(1, 0), order(0, 16), rule(0, 0), order(0, 16), order(1, 16),
                   things(2), order(0, 16), order(1, 16), BEGIN, order(0, 16))
        self.assertEqual(told[1:], [[0], [1], [1, 1], [2], [2, 0, 1], [2, 1, 0], [0], [0], [-2], [0], [0]])


if __name__ == "__main__":
    unittest.main()
