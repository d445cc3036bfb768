"""Promise 14: plan."""

import unittest

from desk_calls import BEGIN, FULL, GREATEST, LEAST, MIXED
from desk_calls import ask, ask_last, chain, free, plan, rule, things, told_of


class Plan(unittest.TestCase):
    def test_what_costs_least_each_time(self):
        # A row for each thing in turn: what it costs with none, one, two before it.
        costs = [5, 1, 9,
                 4, 7, 2,
                 6, 3, 1]
        self.assertEqual(ask_last(*free(3), plan(costs, 16)), [3, 1, 0, 2])

    def test_rows_are_things_and_not_places(self):
        self.assertEqual(ask_last(*free(2), plan([1, 9, 0, 9], 16)), [2, 1, 0])
        self.assertEqual(ask_last(*free(2), plan([0, 9, 1, 9], 16)), [2, 0, 1])
        self.assertEqual(ask_last(*free(2), plan([3, 0, 2, 9], 16)), [2, 1, 0])

    def test_what_it_costs_counts_what_came_before(self):
        costs = [0, 9, 9, 9,
                 5, 8, 9, 9,
                 5, 9, 7, 9,
                 5, 9, 8, 1]
        self.assertEqual(ask_last(*free(4), plan(costs, 16)), [4, 0, 1, 2, 3])
        costs[4 * 3 + 1] = 7
        self.assertEqual(ask_last(*free(4), plan(costs, 16)), [4, 0, 3, 2, 1])

    def test_each_step_by_itself_and_not_the_whole(self):
        # The other order would cost 2 and 2; the words ask for the least of each step.
        self.assertEqual(ask_last(*free(2), plan([1, 2, 2, 100], 16)), [2, 0, 1])

    def test_of_those_that_cost_the_same_the_least_thing(self):
        self.assertEqual(ask_last(*free(3), plan([7] * 9, 16)), [3, 0, 1, 2])
        self.assertEqual(ask_last(*free(3), plan([2, 0, 0, 1, 5, 5, 1, 5, 5], 16)), [3, 1, 0, 2])
        self.assertEqual(ask_last(*free(3), plan([0, 9, 9, 9, 4, 9, 9, 4, 9], 16)), [3, 0, 1, 2])

    def test_only_what_can_be_learnt_next(self):
        start = [things(3), rule(0, 0), rule(1, 1), rule(2, 3)]
        self.assertEqual(ask_last(*start, plan([9, 9, 9, 0, 0, 0, 0, 0, 0], 16)), [3, 0, 1, 2])

    def test_things_never_learnt_are_left_out(self):
        costs = [5] * 49
        costs[4 * 7:] = [0] * 21
        self.assertEqual(ask_last(*MIXED, plan(costs, 16)), [4, 0, 1, 2, 3])
        costs[0] = 6
        self.assertEqual(ask_last(*MIXED, plan(costs, 16)), [4, 1, 0, 2, 3])
        costs[1] = 6
        self.assertEqual(ask_last(*MIXED, plan(costs, 16)), [4, 1, 2, 0, 3])
        costs[2] = 6
        self.assertEqual(ask_last(*MIXED, plan(costs, 16)), [4, 1, 2, 3, 0])

    def test_nothing_that_can_be_learnt(self):
        self.assertEqual(ask_last(things(3), plan([1] * 9, 16)), [0])
        self.assertEqual(ask_last(things(16), plan([1] * 256, 16)), [0])

    def test_the_greatest_costs(self):
        self.assertEqual(ask_last(*free(2), plan([FULL] * 4, 16)), [2, 0, 1])
        self.assertEqual(ask_last(*free(2), plan([FULL, FULL, FULL - 1, FULL], 16)), [2, 1, 0])
        self.assertEqual(ask_last(*free(2), plan([FULL, 0, 0, FULL], 16)), [2, 1, 0])

    def test_sixteen_things(self):
        costs = [FULL - 16 * x for x in range(16) for before in range(16)]
        self.assertEqual(ask_last(*free(16), plan(costs, 16)), [16, *range(15, -1, -1)])
        self.assertEqual(ask_last(*chain(16), plan(costs, 16)), [16, *range(16)])
        self.assertEqual(ask_last(*free(16), plan([FULL] * 256, 16)), [16, *range(16)])
        way = [3 * k % 16 for k in range(16)]
        costs = [0 if way[k] == x else 1 for x in range(16) for k in range(16)]
        self.assertEqual(ask_last(*free(16), plan(costs, 16)), [16, *way])

    def test_a_list_of_another_length(self):
        for n in range(1, 17):
            for amount in (0, 1, n, n * n - 1, n * n + 1, (n - 1) * (n - 1), (n + 1) * (n + 1), 256):
                if amount != n * n and amount <= 256:
                    for first in (0, 1, 16, 17):
                        with self.subTest(n=n, amount=amount, first=first):
                            self.assertEqual(ask_last(*free(n), plan([1] * amount, first)), [-1])

    def test_a_list_of_the_right_length(self):
        for n in range(17):
            self.assertEqual(ask_last(*free(n), plan([1] * (n * n), 16)), [n, *range(n)])

    def test_no_things(self):
        told = ask(plan([], 16), plan([], 0), plan([0], 16), things(0), plan([], 1), plan([1] * 256, 1))
        self.assertEqual(told, [[0], [0], [-1], [0], [0], [-1]])

    def test_the_first_of_them(self):
        wanted = {LEAST: 0, -1: 0, 0: 0, 1: 1, 2: 2, 3: 3, 4: 3, 16: 3, 17: 0, 65536: 0, GREATEST: 0}
        for first, amount in wanted.items():
            with self.subTest(first=first):
                told = ask_last(*free(3), plan([2, 1, 0, 1, 1, 1, 0, 5, 5], first))
                self.assertEqual(told, [3, *[2, 0, 1][:amount]])

    def test_the_first_of_sixteen(self):
        for first, amount in ((0, 0), (1, 1), (15, 15), (16, 16), (17, 0)):
            self.assertEqual(ask_last(*free(16), plan([8] * 256, first)), [16, *range(amount)])

    def test_calls_behind_it_are_read_where_they_begin(self):
        told = ask(*free(2), plan([0, 7, 1, 7], 16), rule(0, 2), plan([], 16), plan([3], 16), rule(0, 2))
        self.assertEqual(told[3:], [[2, 0, 1], [3], [-1], [-1], [4]])

    def test_changes_with_the_rules(self):
        told = ask(things(2), plan([1] * 4, 9), rule(1, 0), plan([1] * 4, 9), rule(0, 0), plan([1] * 4, 9),
                   things(1), plan([1] * 4, 9), plan([1], 9), BEGIN, plan([1], 9), plan([], 9))
        self.assertEqual(told[1:], [[0], [1], [1, 1], [2], [2, 0, 1], [0], [-1], [0], [0], [-1], [0]])

    def test_leaves_all_as_it_was(self):
        told = told_of(free(2), [plan([1, 1, 0, 0], 16), plan([1], 16), plan([1, 1, 0, 0], 16), plan([0] * 4, 16)])
        self.assertEqual(told, [[2, 1, 0], [-1], [2, 1, 0], [2, 0, 1]])


if __name__ == "__main__":
    unittest.main()
