"""Point 3, cr_heard, and point 4, cr_state."""

import unittest

from tests.by_words import ALONGSIDE, AWAY, answer, ask, cr_heard, cr_start, cr_state, cr_tick, order

ROW_OF_SIX = cr_start(6, 1, 0, 5, 0, [(5, 0, 5, 0)])


class NoOrderAsTold(unittest.TestCase):
    def check(self, *messages):
        for m in messages:
            with self.subTest(m=m):
                rows = ask(ROW_OF_SIX, order(ALONGSIDE, 1), cr_tick(1, 0, -1, 0), cr_heard(m), cr_state())
                self.assertEqual(rows[3:], [[-71], [0, 1, 1, 1, 1]])

    def test_how_many_bytes(self):
        whole = [1, 2, 5, 0, 0, 0, 0, 0, 0, 0, 0, 0]
        self.check(*[whole[:count] for count in range(13) if count != 8])

    def test_an_answer(self):
        self.check([2, 1, 5, 0, 0, 0, 0, 0], [2, 2, 5, 0, 0, 0, 0, 0])

    def test_a_report(self):
        self.check([3, 1, 4, 0, 24, 1, 0, 0], [3, 2, 5, 0, 0, 0, 0, 0])

    def test_no_kind_of_message(self):
        self.check([0, 1, 5, 0, 0, 0, 0, 0], [4, 1, 5, 0, 0, 0, 0, 0], [255, 1, 5, 0, 0, 0, 0, 0])

    def test_another_what(self):
        self.check([1, 0, 5, 0, 0, 0, 0, 0], [1, 3, 5, 0, 0, 0, 0, 0], [1, 255, 5, 0, 0, 0, 0, 0])

    def test_a_byte_behind_the_number(self):
        for k in range(4, 8):
            for byte in (1, 255):
                m = [1, 2, 5, 0, 0, 0, 0, 0]
                m[k] = byte
                self.check(m)

    def test_number_0(self):
        self.check([1, 1, 0, 0, 0, 0, 0, 0], [1, 2, 0, 0, 0, 0, 0, 0])

    def test_number_0_at_first(self):
        self.assertEqual(ask(ROW_OF_SIX, order(ALONGSIDE, 0), cr_state()), [[0], [-71], [0, 0, 0, 0, 0]])


class Orders(unittest.TestCase):
    def test_the_first_one(self):
        for what in (ALONGSIDE, AWAY):
            for number in (1, 255, 256, 258, 65535):
                rows = ask(ROW_OF_SIX, order(what, number), cr_state())
                self.assertEqual(rows[1:], [[0] + answer(what, number), [0, what, 0, number, 0]])

    def test_its_bytes(self):
        rows = ask(ROW_OF_SIX, cr_heard([1, 2, 3, 4, 0, 0, 0, 0]), cr_state())
        self.assertEqual(rows[1:], [[0, 1, 2, 2, 3, 4, 0, 0, 0, 0], [0, 2, 0, 1027, 0]])

    def test_one_above(self):
        rows = ask(ROW_OF_SIX, order(ALONGSIDE, 255), order(AWAY, 256), cr_state(), order(ALONGSIDE, 65535), cr_state())
        self.assertEqual(rows[2:], [
            [0] + answer(AWAY, 256), [0, 2, 0, 256, 0], [0] + answer(ALONGSIDE, 65535), [0, 1, 0, 65535, 0]])

    def test_one_above_with_what_it_does_already(self):
        # It expects nothing then: one that is seen where it was expected counts anew.
        rows = ask(ROW_OF_SIX, order(ALONGSIDE, 1), cr_tick(1, 0, -1, 0), cr_state(), order(ALONGSIDE, 2), cr_state(),
                   cr_tick(1, 0, 0, 0), cr_state())
        self.assertEqual(rows[3:6], [[0, 1, 1, 1, 1], [0] + answer(ALONGSIDE, 2), [0, 1, 0, 2, 1]])
        self.assertEqual(rows[7], [0, 1, 7, 2, 2])

    def test_the_last_one_again(self):
        rows = ask(ROW_OF_SIX, order(ALONGSIDE, 1), cr_tick(1, 0, -1, 0), cr_state(), order(ALONGSIDE, 1), cr_state(),
                   cr_tick(1, 0, 0, 0), cr_state())
        self.assertEqual(rows[3:6], [[0, 1, 1, 1, 1], [0] + answer(ALONGSIDE, 1), [0, 1, 1, 1, 1]])
        self.assertEqual(rows[7], [0, 1, 1, 1, 2])

    def test_the_last_number_again_with_another_what(self):
        rows = ask(ROW_OF_SIX, order(ALONGSIDE, 7), order(AWAY, 7), cr_state())
        self.assertEqual(rows[2:], [[0] + answer(ALONGSIDE, 7), [0, 1, 0, 7, 0]])

    def test_late_behind_a_newer_one(self):
        rows = ask(ROW_OF_SIX, order(ALONGSIDE, 256), cr_tick(1, 0, -1, 0), order(AWAY, 255), order(AWAY, 1), cr_state(),
                   cr_tick(1, 0, 0, 0), cr_state())
        self.assertEqual(rows[3:6], [[0], [0], [0, 1, 1, 256, 1]])
        self.assertEqual(rows[6][0], 1)
        self.assertEqual(rows[7], [0, 1, 1, 256, 2])


class State(unittest.TestCase):
    def test_at_first(self):
        self.assertEqual(ask(ROW_OF_SIX, cr_state(), cr_state()), [[0], [0, 0, 0, 0, 0], [0, 0, 0, 0, 0]])

    def test_behind_ticks(self):
        calls = [ROW_OF_SIX]
        for k in range(60):
            calls += [cr_tick(1, 0, 0, 0), cr_state()]
        self.assertEqual(ask(*calls)[2::2], [[0, 0, 0, 0, k + 1] for k in range(60)])

    def test_ticks_of_each_answer_count(self):
        rows = ask(ROW_OF_SIX, cr_tick(0, 0, 0, 0), cr_tick(9, 0, 0, 0), cr_tick(5, 0, 1, 0), order(AWAY, 1),
                   cr_tick(0, 0, 0, 0), cr_tick(5, 0, 0, 0), order(ALONGSIDE, 2), cr_tick(0, 0, 0, 0), cr_state())
        self.assertEqual([row[0] for row in rows], [0, 0, 4, 5, 0, 2, 3, 0, 1, 0])
        self.assertEqual(rows[-1], [0, 1, 7, 2, 6])

    def test_while_it_counts(self):
        rows = ask(ROW_OF_SIX, order(ALONGSIDE, 4), cr_state(), cr_tick(4, 0, 0, 0), cr_state(), cr_state())
        self.assertEqual([rows[2], rows[4], rows[5]], [[0, 1, 0, 4, 0], [0, 1, 7, 4, 1], [0, 1, 7, 4, 1]])

    def test_when_it_expects_nothing(self):
        for state in [(5, 0, 1, 0), (6, 0, 0, 0), (4, 0, 2, 0)]:
            rows = ask(ROW_OF_SIX, order(ALONGSIDE, 4), cr_tick(4, 0, 0, 0), cr_state(), cr_tick(*state), cr_state(),
                       cr_tick(4, 0, 0, 0), cr_state())
            self.assertEqual(rows[3], [0, 1, 7, 4, 1])
            self.assertEqual(rows[5], [0, 1, 0, 4, 2])
            self.assertEqual(rows[7], [0, 1, 7, 4, 3])

    def test_while_it_goes_away(self):
        rows = ask(ROW_OF_SIX, order(ALONGSIDE, 4), cr_tick(4, 0, 0, 0), order(AWAY, 5), cr_state(),
                   cr_tick(4, 0, 0, 0), cr_state())
        self.assertEqual([rows[4], rows[6]], [[0, 2, 0, 5, 1], [0, 2, 0, 5, 2]])


if __name__ == "__main__":
    unittest.main()
