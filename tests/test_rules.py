"""Promises 1 to 3: begin, things, rule."""

import unittest

from desk_calls import BEGIN, FULL, GREATEST, LEAST
from desk_calls import ask, ask_last, bits, first_difference, is_, last, most, next_, rule, things


def many_rules(amount):
    """So many rules of thing 0, all of which want thing 1, of sixteen things."""
    return [rule(0, 2 + 4 * k) for k in range(amount)]


class Begin(unittest.TestCase):
    def test_answers_0(self):
        self.assertEqual(ask(BEGIN, BEGIN), [[0], [0]])

    def test_has_no_things(self):
        self.assertEqual(ask(rule(0, 0), is_(0), is_(1), most(0), most(1)), [[-1], [1], [-1], [0, 0], [-1]])
        self.assertEqual(ask(next_(0), next_(1), last(0), last(1)), [[0, 0], [-1], [0, 0], [-1]])

    def test_again_takes_things_away(self):
        self.assertEqual(ask(things(3), rule(0, 0), BEGIN, is_(1), rule(0, 0), is_(0))[2:], [[0], [-1], [-1], [1]])

    def test_again_takes_rules_away(self):
        told = ask(things(3), rule(0, 0), rule(1, 1), BEGIN, things(3), most(7), rule(2, 0), most(7))
        self.assertEqual(told[3:], [[0], [0], [0, 0], [1], [0, 4]])

    def test_again_leaves_no_rule_of_a_thing_that_was(self):
        self.assertEqual(ask(things(3), rule(0, 0), BEGIN, next_(0), most(0))[2:], [[0], [0, 0], [0, 0]])


class Things(unittest.TestCase):
    def test_every_number_of_things(self):
        for n in range(17):
            with self.subTest(n=n):
                told = ask(things(n), rule(n, 0), is_(1 << n), is_((1 << n) - 1), next_(0))
                self.assertEqual(told, [[0], [-1], [-1], [1 if n == 0 else 0], [0, 0]])
                if n > 0:
                    self.assertEqual(ask(things(n), rule(n - 1, 0), most((1 << n) - 1))[1:], [[1], [0, 1 << (n - 1)]])

    def test_again_takes_rules_away(self):
        told = ask(things(3), rule(0, 0), rule(1, 0), things(3), most(7), next_(0), rule(2, 0), most(7))
        self.assertEqual(told[3:], [[0], [0, 0], [0, 0], [1], [0, 4]])

    def test_again_with_fewer_and_with_more(self):
        told = ask(things(3), rule(2, 0), things(2), is_(4), rule(2, 0), things(16), is_(4), rule(15, 32767))
        self.assertEqual(told, [[0], [1], [0], [-1], [-1], [0], [0], [1]])

    def test_outside_leaves_all_as_it_was(self):
        for n in (-1, -16, 17, 18, 32, LEAST, GREATEST):
            with self.subTest(n=n):
                told = ask(things(3), rule(0, 0), rule(1, 1), things(n), most(7), is_(8), rule(2, 3))
                self.assertEqual(told[3:], [[-1], [0, 3], [-1], [3]])

    def test_outside_straight_behind_begin(self):
        self.assertEqual(ask(things(17), is_(0), is_(1), rule(0, 0)), [[-1], [1], [-1], [-1]])


class Rule(unittest.TestCase):
    def test_answers_how_many_there_are(self):
        self.assertEqual(ask(things(3), rule(0, 0), rule(1, 1), rule(1, 4), rule(2, 3))[1:], [[1], [2], [3], [4]])

    def test_the_same_rule_again_is_one_more(self):
        self.assertEqual(ask(things(2), rule(0, 2), rule(0, 2))[1:], [[1], [2]])

    def test_adds_to_the_rules_before_it(self):
        told = ask(things(3), rule(0, 0), rule(1, 0), rule(2, 1), is_(6), rule(2, 2), is_(6), is_(5))
        self.assertEqual(told[4:], [[0], [4], [1], [1]])

    def test_no_such_thing(self):
        for x in (-1, -3, 3, 4, 16, LEAST, GREATEST):
            with self.subTest(x=x):
                told = ask(things(3), rule(0, 0), rule(x, 0), rule(x, 1), most(7), rule(1, 0))
                self.assertEqual(told[2:], [[-1], [-1], [0, 1], [2]])

    def test_the_sixteenth_thing_and_no_seventeenth(self):
        self.assertEqual(ask(things(16), rule(15, 32767), rule(16, 0))[1:], [[1], [-1]])

    def test_set_with_a_bit_from_the_nth_on(self):
        for s in (8, 9, 16, 65536, 2147483648, FULL - 1, FULL):
            with self.subTest(s=s):
                told = ask(things(3), rule(1, 0), rule(0, s), most(7), rule(0, 0))
                self.assertEqual(told[2:], [[-1], [0, 2], [2]])

    def test_set_with_a_bit_from_the_sixteenth_on(self):
        self.assertEqual(ask(things(16), rule(0, 65536), rule(0, FULL - 1), rule(0, 65534))[1:], [[-1], [-1], [1]])

    def test_set_that_has_the_thing(self):
        for x in range(3):
            for s in range(8):
                with self.subTest(x=x, s=s):
                    wanted = [[-1], [1]] if s >> x & 1 else [[1], [2]]
                    self.assertEqual(ask(things(3), rule(x, s), rule(x, 0))[1:], wanted)

    def test_the_256th_and_the_257th(self):
        told = ask(things(16), *many_rules(255), rule(2, 0), rule(3, 0), rule(4, 0), most(65535), next_(0))
        self.assertIsNone(first_difference(told[1:257], [[k] for k in range(1, 257)]))
        self.assertEqual(told[257:], [[-2], [-2], [0, 4], [0, 4]])

    def test_wrong_form_is_told_ahead_of_too_many(self):
        full = [things(16), *many_rules(256)]
        for wrong in (rule(16, 0), rule(-1, 0), rule(0, 65536), rule(0, FULL), rule(5, 32), rule(0, 1)):
            with self.subTest(wrong=wrong):
                self.assertEqual(ask(*full, wrong, rule(0, 0))[-2:], [[-1], [-2]])

    def test_refused_rules_do_not_count(self):
        told = ask(things(16), rule(0, 1), *many_rules(255), rule(16, 0), rule(0, 0), rule(0, 0))
        self.assertEqual(told[-3:], [[-1], [256], [-2]])

    def test_room_again_behind_things_and_begin(self):
        full = [things(16), *many_rules(256)]
        self.assertEqual(ask_last(*full, things(16), rule(0, 0)), [1])
        self.assertEqual(ask_last(*full, BEGIN, things(1), rule(0, 0)), [1])

    def test_asking_changes_nothing(self):
        start = [things(4), rule(0, 0), rule(1, 1), rule(2, 3)]
        asked = [most(15), is_(15), next_(1), last(7), next_(8), last(16)]
        told = ask(*start, *asked, *asked, rule(3, bits(0, 1, 2)))
        self.assertEqual(told[4:10], told[10:16])
        self.assertEqual(told[16], [4])


if __name__ == "__main__":
    unittest.main()
