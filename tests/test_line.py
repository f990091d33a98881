"""The interface: answers(calls)."""

import unittest

from softport.desk import answers
from tests.by_words import (ALONGSIDE, AWAY, cr_heard, cr_start, cr_state, cr_tick, order, pe_heard, pe_order, pe_start,
                            pe_state, pe_tick)

ROW_OF_SIX = cr_start(6, 1, 0, 5, 0, [(5, 0, 5, 0)])
LINE = (
    pe_start() + ROW_OF_SIX + cr_state() + cr_heard([]) + order(ALONGSIDE, 1) + cr_tick(4, 0, 0, 0)
    + cr_start(0, 1, 0, 5, 0, []) + cr_state() + cr_tick(5, 0, 1, 0) + cr_tick(-7, 0, 0, 0) + cr_heard([9] * 12)
    + order(AWAY, 2) + cr_tick(0, 0, 0, 0) + pe_start() + cr_state()
    + pe_tick() + pe_order(AWAY) + pe_order(3) + pe_tick() + pe_heard([]) + pe_tick() + pe_heard([9] * 12) + pe_tick()
    + pe_heard([3, 2, 6, 7, 8, 1, 2, 3]) + pe_tick() + pe_state() + pe_heard([2, 2, 1, 0, 0, 0, 0, 0]) + pe_state()
    + cr_state() + pe_start() + pe_state())
GIVEN = [
    1, 0,
    1, 0,
    5, 0, 0, 0, 0, 0,
    1, -71,
    10, 0, 1, 2, 1, 1, 0, 0, 0, 0, 0,
    13, 1, 0, 1, 0, 1, 3, 1, 4, 0, 24, 1, 0, 0,
    1, -22,
    5, 0, 1, 7, 1, 1,
    10, 5, 1, 3, 5, 5, 0, 31, 2, 0, 0,
    10, 4, 1, 3, 4, 0, 0, 0, 3, 0, 0,
    1, -71,
    10, 0, 1, 2, 2, 2, 0, 0, 0, 0, 0,
    13, 2, 0, -1, 0, 1, 3, 2, 0, 0, 24, 4, 0, 0,
    1, 0,
    5, 0, 2, 0, 2, 4,
    1, 0,
    10, 1, 1, 1, 2, 1, 0, 0, 0, 0, 0,
    1, -22,
    1, 0,
    1, -71,
    1, 0,
    1, -71,
    1, 0,
    1, 0,
    10, 0, 1, 1, 2, 1, 0, 0, 0, 0, 0,
    9, 0, 1, 2, 0, 197121, 2, 6, 7, 8,
    1, 0,
    9, 0, 1, 2, 1, 197121, 2, 6, 7, 8,
    5, 0, 2, 0, 2, 4,
    1, 0,
    9, 0, 0, 0, 0, 0, 0, 0, 0, 0,
]


class Answers(unittest.TestCase):
    def test_several_calls_in_order(self):
        self.assertEqual(answers(list(LINE)), GIVEN)

    def test_one_call(self):
        self.assertEqual(answers([4]), [1, 0])
        self.assertEqual(answers(list(ROW_OF_SIX)), [1, 0])
        self.assertEqual(answers([0, 0, 0, 0, 0, 0, 0, 0, 0]), [1, -22])

    def test_what_is_handed_in_stays_as_it_was(self):
        calls = list(LINE)
        answers(calls)
        self.assertEqual(calls, list(LINE))

    def test_asked_twice(self):
        calls = list(LINE)
        self.assertEqual(answers(calls), GIVEN)
        self.assertEqual(answers(calls), GIVEN)

    def test_nothing_is_kept(self):
        # The next line begins without the orders and ticks of the last one, and without its map.
        other = cr_start(6, 1, 2, 0, 0, [(0, 0, 0, 0)])
        self.assertEqual(answers(ROW_OF_SIX + order(ALONGSIDE, 5) + cr_tick(3, 0, 0, 0))[13:17], [13, 1, 0, 1])
        self.assertEqual(answers(other + cr_state()), [1, 0, 5, 0, 0, 0, 0, 0])
        self.assertEqual(
            answers(other + order(ALONGSIDE, 1) + cr_tick(3, 0, 0, 0))[13:],
            [13, 1, 0, -1, 0, 1, 3, 1, 3, 0, 24, 1, 0, 0])
        # Nor with what the people's end had.
        answers(pe_start() + pe_order(AWAY) + pe_heard([3, 2, 6, 7, 8, 1, 2, 3]) + pe_tick() * 3)
        self.assertEqual(answers(pe_start() + pe_state()), [1, 0, 9, 0, 0, 0, 0, 0, 0, 0, 0, 0])
        self.assertEqual(
            answers(pe_start() + pe_order(AWAY) + pe_tick() * 4),
            [1, 0, 10, 1, 1, 1, 2, 1, 0, 0, 0, 0, 0, 1, 0, 1, 0, 1, 0, 1, 0])

    def test_what_is_given_back_is_whole_numbers(self):
        given = answers(list(LINE))
        self.assertIs(type(given), list)
        self.assertEqual({type(number) for number in given}, {int})

    def test_what_is_given_back_is_the_caller_s_own(self):
        calls = list(LINE)
        answers(calls).clear()
        self.assertEqual(answers(calls), GIVEN)

    def test_the_longest_line(self):
        calls = []
        for k in range(66):
            calls += cr_start(32, 32, 0, 20, 1 + k % 30, [(20, 1, 20, 30)] * 8)
            calls += order(1 + k % 2, 65535) + cr_tick(19, 1 + k % 30, 0, 0)
        calls += pe_start() + cr_state()
        given = answers(calls)
        self.assertEqual(given[-8:], [1, 0, 5, 0, 2, 0, 65535, 1])

    def test_the_longest_line_of_the_people_s_end(self):
        given = answers(pe_start() + pe_order(4294967295) + pe_order(ALONGSIDE) + (pe_tick() + pe_heard([255] * 12)) * 98)
        self.assertEqual(given[:14], [1, 0, 1, -22, 10, 1, 1, 1, 1, 1, 0, 0, 0, 0])
        self.assertEqual(given[15:], (
            [1, 0, 1, -71] * 4 + [10, 0, 1, 1, 1, 1, 0, 0, 0, 0, 0, 1, -71]) * 19 + [1, 0, 1, -71] * 3)


if __name__ == "__main__":
    unittest.main()
