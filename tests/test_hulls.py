"""Promises 12 and 13: hull, corners."""

import unittest

from desk_calls import BEGIN, FULL, MIXED
from desk_calls import ask, bits, chain, corners, free, hull, rule, things, told_of

# Five points on a line, 0 to 4: an end can be taken off, what lies within only behind one side of it.
LINE = [things(5), *[rule(x, (1 << x) - 1) for x in range(5)], *[rule(x, 31 & ~((2 << x) - 1)) for x in range(5)]]


def between(s):
    """The points from the first of a set on a line to its last."""
    inside = [x for x in range(5) if s >> x & 1]
    return bits(*range(inside[0], inside[-1] + 1)) if inside else 0


class Hull(unittest.TestCase):
    def test_points_on_a_line(self):
        told = told_of(LINE, [hull(s) for s in range(32)])
        self.assertEqual(told, [[0, between(s)] for s in range(32)])

    def test_the_empty_set(self):
        self.assertEqual(told_of(MIXED, [hull(0)]), [[0, bits(4, 5, 6)]])
        self.assertEqual(told_of(free(16), [hull(0)]), [[0, 0]])
        self.assertEqual(told_of([things(16)], [hull(0)]), [[0, 65535]])

    def test_all_things(self):
        self.assertEqual(told_of(MIXED, [hull(127)]), [[0, 127]])
        for start in (free(16), chain(16), [things(16)]):
            self.assertEqual(told_of(start, [hull(65535)]), [[0, 65535]])

    def test_things_never_learnt_are_in_every_hull(self):
        told = told_of(MIXED, [hull(s) for s in range(128)])
        self.assertEqual([answer[1] & bits(4, 5, 6) for answer in told], [bits(4, 5, 6)] * 128)

    def test_what_wants_a_thing_of_the_set(self):
        told = told_of(MIXED, [hull(bits(0)), hull(bits(1)), hull(bits(2)), hull(bits(3)), hull(bits(0, 1))])
        never = bits(4, 5, 6)
        self.assertEqual(told, [[0, never + s] for s in (bits(0), bits(1, 3), bits(2, 3), bits(3), bits(0, 1, 2, 3))])

    def test_things_from_nothing(self):
        self.assertEqual(told_of(free(16), [hull(s) for s in (1, 40961, 65534)]), [[0, 1], [0, 40961], [0, 65534]])

    def test_a_chain(self):
        self.assertEqual(told_of(chain(16), [hull(1 << x) for x in range(16)]),
                         [[0, 65536 - (1 << x)] for x in range(16)])

    def test_no_things(self):
        self.assertEqual(ask(hull(0), hull(1), corners(0), corners(1)), [[0, 0], [-1], [0, 0], [-1]])

    def test_changes_with_the_rules(self):
        told = ask(things(2), hull(0), rule(0, 0), hull(0), rule(1, 1), hull(1), rule(1, 0), hull(1), BEGIN, hull(0))
        self.assertEqual(told[1::2], [[0, 3], [0, 2], [0, 3], [0, 1], [0, 0]])


class Corners(unittest.TestCase):
    def test_points_on_a_line(self):
        told = told_of(LINE, [corners(s) for s in range(1, 32)])
        for s, answer in zip(range(1, 32), told):
            inside = [x for x in range(5) if s >> x & 1]
            with self.subTest(s=s):
                self.assertEqual(answer, [0, bits(*{inside[0], inside[-1]})])

    def test_the_empty_set(self):
        for start in (LINE, MIXED, free(16), chain(16), [things(16)]):
            self.assertEqual(told_of(start, [corners(0)]), [[0, 0]])

    def test_all_things(self):
        self.assertEqual(told_of(MIXED, [corners(127)]), [[0, bits(0, 1)]])
        self.assertEqual(told_of(free(16), [corners(65535)]), [[0, 65535]])
        self.assertEqual(told_of(chain(16), [corners(65535)]), [[0, 1]])
        self.assertEqual(told_of([things(16)], [corners(65535)]), [[0, 0]])

    def test_things_never_learnt_are_no_corners(self):
        told = told_of(MIXED, [corners(bits(4, 5, 6)), corners(bits(6)), corners(bits(4)), corners(bits(0, 4, 6))])
        self.assertEqual(told, [[0, 0], [0, 0], [0, 0], [0, bits(0)]])

    def test_of_the_hull_and_not_of_the_set_alone(self):
        # 3 is in the hull of 1, and 2 and 3 in that of 0 and 1: they can't be learnt without these.
        told = told_of(MIXED, [corners(bits(3)), corners(bits(0, 1)), corners(bits(1)), corners(bits(2, 3))])
        self.assertEqual(told, [[0, bits(3)], [0, bits(0, 1)], [0, bits(1)], [0, bits(2)]])

    def test_each_by_itself(self):
        told = told_of(MIXED, [hull(s) for s in range(128)])
        given = told_of(MIXED, [corners(s) for s in range(128)])
        for s in range(128):
            whole = told[s][1]
            wanted = [x for x in range(7) if whole >> x & 1 and told[whole - (1 << x)][1] == whole - (1 << x)]
            with self.subTest(s=s):
                self.assertEqual(given[s], [0, bits(*wanted)])

    def test_changes_with_the_rules(self):
        told = ask(things(2), corners(3), rule(0, 0), corners(3), rule(1, 1), corners(3), rule(1, 0), corners(3),
                   things(2), corners(3))
        self.assertEqual(told[1::2], [[0, 0], [0, 1], [0, 1], [0, 3], [0, 0]])


class Outside(unittest.TestCase):
    def test_a_bit_from_the_nth_on(self):
        for n in range(17):
            for start in ([things(n)], free(n)):
                for s in (1 << n, (2 << n) - 1, 1 << 17, 1 << 31, FULL - 1, FULL):
                    with self.subTest(n=n, s=s):
                        self.assertEqual(told_of(start, [hull(s), corners(s)]), [[-1], [-1]])

    def test_the_highest_thing_is_within(self):
        for n in range(1, 17):
            s = 1 << (n - 1)
            self.assertEqual(told_of(free(n), [hull(s), corners(s)]), [[0, s], [0, s]])


if __name__ == "__main__":
    unittest.main()
