"""Promises 4 to 7: is, most, next, last."""

import random
import unittest

from desk_calls import FULL, MIXED
from desk_calls import ask_last, bits, chain, first_difference, is_, last, most, next_, rule, things, told_of

STATES = sorted([0, bits(0), bits(1), bits(0, 1), bits(0, 2), bits(1, 2), bits(0, 1, 2), bits(1, 2, 3),
                 bits(0, 1, 2, 3)])


class Is(unittest.TestCase):
    def test_the_states_and_no_other_set(self):
        told = told_of(MIXED, [is_(s) for s in range(128)])
        self.assertIsNone(first_difference(told, [[1] if s in STATES else [0] for s in range(128)]))

    def test_the_empty_set(self):
        for n in (0, 1, 16):
            self.assertEqual(ask_last(things(n), is_(0)), [1])

    def test_only_whoever_knows_all_of_the_rules_set_is_taught(self):
        start = [things(3), rule(0, 0), rule(1, 0), rule(2, 3)]
        self.assertEqual(told_of(start, [is_(4), is_(5), is_(6), is_(7)]), [[0], [0], [0], [1]])

    def test_rule_from_nothing_holds_for_whoever_knows_more(self):
        start = [things(3), rule(0, 0), rule(1, 0), rule(1, 5)]
        self.assertEqual(told_of(start, [is_(2), is_(3)]), [[1], [1]])

    def test_what_teaches_itself_in_a_ring_is_no_state(self):
        self.assertEqual(told_of(MIXED, [is_(bits(4, 5)), is_(bits(0, 4, 5))]), [[0], [0]])

    def test_sixteen_things(self):
        start = chain(16)
        self.assertEqual(told_of(start, [is_(65535), is_(32767), is_(65534), is_(32768)]), [[1], [1], [0], [0]])


class Most(unittest.TestCase):
    def test_within_every_set(self):
        told = told_of(MIXED, [most(s) for s in range(128)])
        for s in range(128):
            within = [state for state in STATES if state & ~s == 0]
            greatest = [state for state in within if all(other & ~state == 0 for other in within)]
            with self.subTest(s=s):
                self.assertEqual([told[s]], [[0, state] for state in greatest])

    def test_the_empty_set(self):
        for n in (0, 1, 16):
            self.assertEqual(ask_last(things(n), most(0)), [0, 0])

    def test_all_that_can_be_learnt_leaves_out_what_never_can(self):
        self.assertEqual(told_of(MIXED, [most(127)]), [[0, bits(0, 1, 2, 3)]])

    def test_no_help_from_outside_the_set(self):
        self.assertEqual(told_of(MIXED, [most(bits(0, 3)), most(bits(2, 3))]), [[0, bits(0)], [0, 0]])

    def test_a_long_chain_with_its_rules_backward(self):
        self.assertEqual(told_of(chain(16), [most(65535), most(65535 - 256), most(65534)]),
                         [[0, 65535], [0, 255], [0, 0]])

    def test_a_long_chain_from_the_highest_thing_down(self):
        start = [things(16), rule(15, 0), *[rule(x, 2 << x) for x in range(15)]]
        self.assertEqual(told_of(start, [most(65535), most(65535 - 256)]), [[0, 65535], [0, 65024]])


class Next(unittest.TestCase):
    def test_behind_every_state(self):
        told = told_of(MIXED, [next_(s) for s in STATES])
        for s, answer in zip(STATES, told):
            with self.subTest(s=s):
                reached = [x for x in range(7) if not s >> x & 1 and s | 1 << x in STATES]
                self.assertEqual(answer, [0, bits(*reached)])

    def test_behind_nothing(self):
        self.assertEqual(told_of(MIXED, [next_(0)]), [[0, bits(0, 1)]])
        self.assertEqual(ask_last(things(16), next_(0)), [0, 0])
        self.assertEqual(ask_last(things(0), next_(0)), [0, 0])

    def test_nothing_behind_all_that_can_be_learnt(self):
        self.assertEqual(told_of(MIXED, [next_(bits(0, 1, 2, 3))]), [[0, 0]])

    def test_one_step_alone(self):
        self.assertEqual(told_of(chain(16), [next_(0), next_(1), next_(32767)]), [[0, 1], [0, 2], [0, 32768]])

    def test_a_thing_that_several_rules_teach_is_told_once(self):
        start = [things(4), rule(0, 0), rule(1, 0), rule(2, 1), rule(2, 2), rule(2, 3), rule(3, 4)]
        self.assertEqual(told_of(start, [next_(3), next_(1), next_(7)]), [[0, 4], [0, 6], [0, 8]])

    def test_no_state(self):
        wrong = [s for s in range(128) if s not in STATES]
        self.assertIsNone(first_difference(told_of(MIXED, [next_(s) for s in wrong]), [[-2] for s in wrong]))


class Last(unittest.TestCase):
    def test_of_every_state(self):
        told = told_of(MIXED, [last(s) for s in STATES])
        for s, answer in zip(STATES, told):
            with self.subTest(s=s):
                free = [x for x in range(7) if s >> x & 1 and s - (1 << x) in STATES]
                self.assertEqual(answer, [0, bits(*free)])

    def test_of_nothing(self):
        for n in (0, 1, 16):
            self.assertEqual(ask_last(things(n), last(0)), [0, 0])

    def test_of_a_chain(self):
        self.assertEqual(told_of(chain(16), [last(65535), last(1), last(3)]), [[0, 32768], [0, 1], [0, 2]])

    def test_of_things_from_nothing(self):
        start = [things(16), *[rule(x, 0) for x in range(16)]]
        self.assertEqual(told_of(start, [last(65535), last(40961)]), [[0, 65535], [0, 40961]])

    def test_each_by_itself_though_not_both(self):
        start = [things(3), rule(0, 0), rule(1, 0), rule(2, 1), rule(2, 2)]
        self.assertEqual(told_of(start, [last(7), last(5), last(6)]), [[0, 7], [0, 4], [0, 4]])

    def test_no_state(self):
        wrong = [s for s in range(128) if s not in STATES]
        self.assertIsNone(first_difference(told_of(MIXED, [last(s) for s in wrong]), [[-2] for s in wrong]))


class Outside(unittest.TestCase):
    """Sets with a bit from the n-th on: -1, also where they are no state."""

    def test_few_things(self):
        for n in range(17):
            start = [things(n), *[rule(x, 0) for x in range(n)]]
            for s in (1 << n, (2 << n) - 1, 1 << 17, 1 << 31, FULL - 1, FULL):
                with self.subTest(n=n, s=s):
                    self.assertEqual(told_of(start, [is_(s), most(s), next_(s), last(s)]), [[-1]] * 4)

    def test_ahead_of_no_state(self):
        start = [things(3), rule(1, 1)]
        for s in (2, 4, 7):
            self.assertEqual(told_of(start, [next_(s), last(s)]), [[-2], [-2]])
            self.assertEqual(told_of(start, [next_(8 + s), last(8 + s)]), [[-1], [-1]])


class ByTheWords(unittest.TestCase):
    """Against the words of the document: states got from nothing on by learning one by one."""

    def reached(self, n, rules):
        found = [0]
        for state in found:
            for x, s in rules:
                learnt = state | 1 << x
                if s & ~state == 0 and learnt not in found:
                    found.append(learnt)
        return found

    def check(self, n, rules):
        states = self.reached(n, rules)
        start = [things(n), *[rule(x, s) for x, s in rules]]
        for s in range(1 << n):
            greatest = 0
            for state in states:
                if state & ~s == 0:
                    greatest |= state
            wanted = [[1 if s in states else 0], [0, greatest], [-2], [-2]]
            if s in states:
                taught = {x for x, needed in rules if needed & ~s == 0 and not s >> x & 1}
                free = {x for x in range(n) if s >> x & 1 and s - (1 << x) in states}
                wanted[2:] = [[0, bits(*taught)], [0, bits(*free)]]
            self.assertEqual(told_of(start, [is_(s), most(s), next_(s), last(s)]), wanted, (n, rules, s))

    def test_many_rule_sets(self):
        source = random.Random(20261115)
        for turn in range(120):
            n = 1 + turn % 6
            rules = []
            for k in range(source.randrange(3 * n + 1)):
                x = source.randrange(n)
                s = source.randrange(1 << n) & source.randrange(1 << n) & ~(1 << x)
                rules.append((x, s))
            self.check(n, rules)


if __name__ == "__main__":
    unittest.main()
