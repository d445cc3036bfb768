"""The interface: learntpath.desk.answers."""

import contextlib
import io
import sys
import unittest

from desk_calls import BEGIN, first_difference, is_, joined, last, most, next_, rule, things
from learntpath.desk import answers

LINE = joined([BEGIN, things(3), rule(0, 0), rule(1, 1), rule(3, 0), is_(1), is_(2), is_(8), most(7), most(8),
               next_(1), next_(2), next_(9), last(3), last(2), last(10), things(17)])
TOLD = [1, 0, 1, 0, 1, 1, 1, 2, 1, -1, 1, 1, 1, 0, 1, -1, 2, 0, 3, 1, -1,
        2, 0, 2, 1, -2, 1, -1, 2, 0, 2, 1, -2, 1, -1, 1, -1]


def refuse(*given):
    raise AssertionError("what is handed in was changed")


class Watched(list):
    """A list that lets nothing be changed, not for a while either."""

    __setitem__ = __delitem__ = __iadd__ = __imul__ = refuse
    append = extend = insert = pop = remove = clear = sort = reverse = refuse


class Interface(unittest.TestCase):
    def test_the_empty_list(self):
        self.assertEqual(answers([]), [])

    def test_one_call(self):
        self.assertEqual(answers([0]), [1, 0])

    def test_several_calls_with_counts_ahead(self):
        self.assertEqual(answers(LINE), TOLD)

    def test_gives_back_a_list_of_whole_numbers(self):
        told = answers(LINE)
        self.assertIs(type(told), list)
        self.assertEqual({type(number) for number in told}, {int})
        self.assertIs(type(answers([])), list)

    def test_what_is_handed_in_is_the_same_afterwards(self):
        line = list(LINE)
        told = answers(line)
        self.assertEqual(line, LINE)
        self.assertIsNot(told, line)
        empty = []
        self.assertIsNot(answers(empty), empty)

    def test_what_is_handed_in_is_never_changed(self):
        self.assertEqual(answers(Watched(LINE)), TOLD)

    def test_called_twice_answers_the_same(self):
        first = answers(LINE)
        second = answers(LINE)
        self.assertEqual(first, second)
        self.assertIsNot(first, second)

    def test_nothing_is_kept_from_one_time_to_the_next(self):
        answers(joined([BEGIN, things(3), rule(0, 0)]))
        self.assertEqual(answers(joined([is_(0), is_(1), rule(0, 0)])), [1, 1, 1, -1, 1, -1])
        self.assertEqual(answers(joined([BEGIN, things(3), most(7), rule(1, 0)])), [1, 0, 1, 0, 2, 0, 0, 1, 1])

    def test_what_was_given_back_may_be_changed(self):
        answers(LINE).clear()
        self.assertEqual(answers(LINE), TOLD)

    def test_prints_nothing(self):
        out = io.StringIO()
        with contextlib.redirect_stdout(out), contextlib.redirect_stderr(out):
            answers(LINE)
        self.assertEqual(out.getvalue(), "")

    def test_three_hundred_calls_do_not_nest(self):
        calls = joined([BEGIN, things(16), *[rule(k % 16, 0) for k in range(256)], *[last(65535)] * 42])
        told = [1, 0, 1, 0, *joined([[1, k] for k in range(1, 257)]), *[2, 0, 65535] * 42]
        before = sys.getrecursionlimit()
        sys.setrecursionlimit(150)
        try:
            given = answers(calls)
        finally:
            sys.setrecursionlimit(before)
        self.assertIsNone(first_difference(given, told))


if __name__ == "__main__":
    unittest.main()
