"""The interface: learntpath.desk.answers."""

import contextlib
import io
import sys
import unittest

from desk_calls import BEGIN, COUNT, FULL, HIGHEST, ORDERS, corners, first_difference, free, hull, is_, joined
from desk_calls import last, most, next_, order, paths, plan, rule, things
from learntpath.desk import answers

LINE = joined([BEGIN, things(3), rule(0, 0), rule(1, 1), rule(3, 0), is_(1), is_(2), is_(8), most(7), most(8),
               next_(1), next_(2), next_(9), last(3), last(2), last(10), things(17)])
TOLD = [1, 0, 1, 0, 1, 1, 1, 2, 1, -1, 1, 1, 1, 0, 1, -1, 2, 0, 3, 1, -1,
        2, 0, 2, 1, -2, 1, -1, 2, 0, 2, 1, -2, 1, -1, 1, -1]

# All fourteen calls, each with what it answers, with begin and things among them.
ALL = [
    (BEGIN, [0]), (COUNT, [1]), (ORDERS, [0, 1]), (order(0, 16), [0]), (paths(0, 1), [-1]), (hull(0), [0, 0]),
    (corners(1), [-1]), (plan([], 1), [0]),
    (things(3), [0]), (COUNT, [1]), (hull(0), [0, 7]), (corners(7), [0, 0]), (rule(0, 0), [1]), (rule(1, 0), [2]),
    (rule(2, 1), [3]), (rule(2, 2), [4]), (rule(2, 4), [-1]), (is_(3), [1]), (is_(4), [0]), (most(6), [0, 6]),
    (next_(1), [0, 6]), (next_(4), [-2]), (last(7), [0, 7]), (last(8), [-1]), (COUNT, [7]), (ORDERS, [0, 4]),
    (order(1, 16), [3, 0, 2, 1]), (order(3, 2), [3, 1, 2]), (order(4, 2), [-2]), (order(HIGHEST, 0), [-2]),
    (paths(2, 65536), [2, 5, 6]), (paths(2, 1), [2, 5]), (paths(2, 0), [2]), (paths(3, 1), [-1]),
    (hull(3), [0, 7]), (corners(3), [0, 3]), (hull(FULL), [-1]), (plan([1, 2, 3, 0, 9, 9, 0, 2, 9], 16), [3, 1, 0, 2]),
    (plan([1, 2, 3, 0, 9, 9, 0, 1, 9], 2), [3, 1, 2]), (plan([7], 2), [-1]),
    (things(17), [-1]), (COUNT, [7]), (things(1), [0]), (COUNT, [1]), (ORDERS, [0, 1]), (paths(0, 9), [0]),
    (rule(0, 0), [1]), (paths(0, 9), [1, 1]), (order(0, 9), [1, 0]), (plan([FULL], 9), [1, 0]),
    (BEGIN, [0]), (COUNT, [1]), (plan([FULL], 9), [-1]), (order(0, 9), [0]),
]
ALL_LINE = joined([call for call, answer in ALL])
ALL_TOLD = joined([[len(answer), *answer] for call, answer in ALL])


def refuse(*given):
    raise AssertionError("what is handed in was changed")


class Watched(list):
    """A list that lets nothing be changed, not for a while either."""

    __setitem__ = __delitem__ = __iadd__ = __imul__ = refuse
    append = extend = insert = pop = remove = clear = sort = reverse = refuse


class Interface(unittest.TestCase):
    def test_the_empty_list(self):
        self.assertEqual(answers([]), [])

    def test_one_call(self):
        self.assertEqual(answers([0]), [1, 0])

    def test_several_calls_with_counts_ahead(self):
        self.assertEqual(answers(LINE), TOLD)

    def test_all_fourteen_calls(self):
        self.assertEqual({call[0] for call, answer in ALL}, set(range(14)))
        self.assertIsNone(first_difference(answers(ALL_LINE), ALL_TOLD))

    def test_gives_back_a_list_of_whole_numbers(self):
        for line in (LINE, ALL_LINE):
            told = answers(line)
            self.assertIs(type(told), list)
            self.assertEqual({type(number) for number in told}, {int})
        self.assertIs(type(answers([])), list)

    def test_what_is_handed_in_is_the_same_afterwards(self):
        for whole in (LINE, ALL_LINE):
            line = list(whole)
            told = answers(line)
            self.assertEqual(line, whole)
            self.assertIsNot(told, line)
        empty = []
        self.assertIsNot(answers(empty), empty)

    def test_what_is_handed_in_is_never_changed(self):
        self.assertEqual(answers(Watched(LINE)), TOLD)
        self.assertIsNone(first_difference(answers(Watched(ALL_LINE)), ALL_TOLD))

    def test_called_twice_answers_the_same(self):
        for line in (LINE, ALL_LINE):
            first = answers(line)
            second = answers(line)
            self.assertIsNone(first_difference(first, second))
            self.assertIsNot(first, second)

    def test_nothing_is_kept_from_one_time_to_the_next(self):
        answers(joined([BEGIN, things(3), rule(0, 0), COUNT, ORDERS, paths(0, 1)]))
        self.assertEqual(answers(joined([COUNT, ORDERS, paths(0, 1), hull(0)])), [1, 1, 2, 0, 1, 1, -1, 2, 0, 0])
        self.assertEqual(answers(joined([is_(0), is_(1), rule(0, 0)])), [1, 1, 1, -1, 1, -1])
        self.assertEqual(answers(joined([BEGIN, things(3), most(7), rule(1, 0)])), [1, 0, 1, 0, 2, 0, 0, 1, 1])

    def test_what_was_given_back_may_be_changed(self):
        answers(LINE).clear()
        self.assertEqual(answers(LINE), TOLD)

    def test_prints_nothing(self):
        out = io.StringIO()
        with contextlib.redirect_stdout(out), contextlib.redirect_stderr(out):
            answers(ALL_LINE)
        self.assertEqual(out.getvalue(), "")

    def check_without_nesting(self, calls, told):
        before = sys.getrecursionlimit()
        sys.setrecursionlimit(150)
        try:
            given = answers(joined(calls))
        finally:
            sys.setrecursionlimit(before)
        self.assertIsNone(first_difference(given, joined([[len(answer), *answer] for answer in told])))

    def test_three_hundred_calls_do_not_nest(self):
        calls = [BEGIN, things(16), *[rule(k % 16, 0) for k in range(256)], *[last(65535)] * 42]
        self.check_without_nesting(calls, [[0], [0], *[[k] for k in range(1, 257)], *[[0, 65535]] * 42])

    def test_three_hundred_calls_of_all_kinds(self):
        start = [BEGIN, *free(16)]
        asked = [COUNT, ORDERS, order(20922789887999, 2), paths(15, 65536), hull(9), corners(9), is_(9), most(9),
                 next_(65533), last(9), rule(3, 4)]
        told = [[65536], [0, 20922789888000], [16, 15, 14], [1, 32768], [0, 9], [0, 9], [1], [0, 9], [0, 2], [0, 9]]
        wanted = [[0], [0], *[[k] for k in range(1, 17)]]
        for turn in range(25):
            wanted += [*told, [17 + turn]]
        self.check_without_nesting([*start, *asked * 25, *[COUNT] * 7], [*wanted, *[[65536]] * 7])

    def test_the_longest_list(self):
        calls = [BEGIN, *free(16), *[plan([FULL] * 256, 16)] * 60, *[rule(3, 4)] * 96, *[is_(1)] * 126]
        self.assertEqual((len(calls), len(joined(calls))), (300, 16131))
        rules = [[k] for k in range(1, 113)]
        told = [[0], [0], *rules[:16], *[[16, *range(16)]] * 60, *rules[16:], *[[1]] * 126]
        self.check_without_nesting(calls, told)


if __name__ == "__main__":
    unittest.main()
