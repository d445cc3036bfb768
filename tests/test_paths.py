"""Promise 11: paths."""

import itertools
import unittest

from desk_calls import BEGIN, GREATEST, LEAST, MIXED
from desk_calls import ask, ask_last, bits, chain, first_difference, free, paths, rule, things, told_of

# 15 by whoever knows some eight of the other fifteen things: by as many rules as fit beside those of the others.
EIGHTS = [bits(*some) for some in itertools.combinations(range(15), 8)]
MANY = [things(16), *[rule(x, 0) for x in range(15)], *[rule(15, s) for s in EIGHTS[:240]]]
MANY_PATHS = sorted(s + 32768 for s in EIGHTS[:240])


class Paths(unittest.TestCase):
    def test_to_each_thing(self):
        told = told_of(MIXED, [paths(x, 65536) for x in range(7)])
        self.assertEqual(told, [[1, 1], [1, 2], [2, bits(0, 2), bits(1, 2)], [1, bits(1, 2, 3)], [0], [0], [0]])

    def test_no_such_thing(self):
        for x in (-1, 7, 8, 16, LEAST, GREATEST):
            for first in (LEAST, 0, 1, 65536, 65537):
                with self.subTest(x=x, first=first):
                    self.assertEqual(ask_last(*MIXED, paths(x, first)), [-1])
        self.assertEqual(ask(paths(0, 1), things(0), paths(0, 1), things(16), paths(16, 1), paths(15, 1)),
                         [[-1], [0], [-1], [0], [-1], [0]])

    def test_a_thing_that_can_not_be_learnt(self):
        for first in (LEAST, 0, 1, 65536, 65537):
            self.assertEqual(told_of(MIXED, [paths(4, first), paths(6, first)]), [[0], [0]])

    def test_rising_by_their_numbers_whatever_their_sizes(self):
        # To 0 either by 4 alone or by 1, 2 and 3, which is the lesser number.
        start = [things(5), rule(0, bits(4)), rule(0, bits(1, 2, 3)), *[rule(x, 0) for x in range(4, 0, -1)]]
        self.assertEqual(told_of(start, [paths(0, 65536)]), [[2, bits(0, 1, 2, 3), bits(0, 4)]])

    def test_a_state_within_which_is_another_is_none(self):
        start = [things(3), rule(0, 0), rule(1, 1), rule(2, 1), rule(2, 3)]
        self.assertEqual(told_of(start, [paths(2, 65536)]), [[1, bits(0, 2)]])

    def test_ways_to_what_a_rule_wants_are_gone_through(self):
        # 4 wants 3, and 3 wants one of 0, 1, 2.
        start = [things(5), rule(0, 0), rule(1, 0), rule(2, 0), rule(3, 1), rule(3, 2), rule(3, 4), rule(4, 8)]
        self.assertEqual(told_of(start, [paths(4, 65536), paths(3, 65536)]), [[3, 25, 26, 28], [3, 9, 10, 12]])

    def test_a_chain(self):
        told = told_of(chain(16), [paths(x, 65536) for x in range(16)])
        self.assertEqual(told, [[1, (2 << x) - 1] for x in range(16)])

    def test_things_from_nothing(self):
        told = told_of(free(16), [paths(x, 65536) for x in range(16)])
        self.assertEqual(told, [[1, 1 << x] for x in range(16)])

    def test_many(self):
        wanted = {LEAST: 0, -1: 0, 0: 0, 1: 1, 2: 2, 16: 16, 17: 17, 239: 239, 240: 240, 241: 240, 65535: 240,
                  65536: 240, 65537: 0, GREATEST: 0}
        told = told_of(MANY, [paths(15, first) for first in wanted])
        self.assertIsNone(first_difference(told, [[240, *MANY_PATHS[:amount]] for amount in wanted.values()]))

    def test_more_than_there_are_rules(self):
        # To 15 by way of 12, 13 and 14, to each of which there are four paths.
        start = [things(16), *[rule(x, 0) for x in range(12)], rule(15, bits(12, 13, 14))]
        start += [rule(12 + x // 4, 1 << x) for x in range(12)]
        told = told_of(start, [paths(15, 65536), paths(15, 7)])
        wanted = sorted(bits(a, 4 + b, 8 + c, 12, 13, 14, 15) for a, b, c in itertools.product(range(4), repeat=3))
        self.assertIsNone(first_difference(told, [[64, *wanted], [64, *wanted[:7]]]))

    def test_changes_with_the_rules(self):
        told = ask(things(2), paths(0, 9), rule(0, 2), paths(0, 9), rule(1, 0), paths(0, 9), rule(0, 0), paths(0, 9),
                   things(2), paths(0, 9), BEGIN, paths(0, 9))
        self.assertEqual(told[1::2], [[0], [0], [1, 3], [1, 1], [0], [-1]])

    def test_what_was_told_in_part_is_told_in_full_behind_it(self):
        told = told_of(MIXED, [paths(2, 1), paths(2, 65536), paths(2, 0), paths(2, 65536)])
        self.assertEqual(told, [[2, 5], [2, 5, 6], [2], [2, 5, 6]])


if __name__ == "__main__":
    unittest.main()
