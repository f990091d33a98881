"""Points 6 to 9: pe_order, pe_heard, pe_tick and pe_state; and point 5, pe_start, as these tell of it."""

import unittest

from softport.people import PeoplesEnd
from tests.by_words import ALONGSIDE, AWAY, ask, pe_heard, pe_order, pe_start, pe_state, pe_tick, sent_order

AT_FIRST = [0, 0, 0, 0, 0, 0, 0, 0, 0]
GREATEST = 4294967295


def answered(what, number):
    return pe_heard([2, what, number % 256, number // 256, 0, 0, 0, 0])


def reported(number, what=1, x=4, y=5, speed=24):
    return pe_heard([3, what, x, y, speed, number % 256, number // 256 % 256, number // 65536])


def known(*calls):
    """What pe_state tells behind these calls."""
    return ask(pe_start(), *calls, pe_state())[-1]


def told(*calls):
    """What is answered to each of these."""
    return ask(pe_start(), *calls)[1:]


class Orders(unittest.TestCase):
    def test_the_first_one(self):
        self.assertEqual(told(pe_order(ALONGSIDE)), [[1, 1, 1, 1, 1, 0, 0, 0, 0, 0]])
        self.assertEqual(told(pe_order(AWAY)), [[1, 1, 1, 2, 1, 0, 0, 0, 0, 0]])
        self.assertEqual(known(pe_order(ALONGSIDE)), [0, 1, 1, 0, 0, 0, 0, 0, 0])
        self.assertEqual(known(pe_order(AWAY)), [0, 1, 2, 0, 0, 0, 0, 0, 0])

    def test_the_next_ones(self):
        whats = [1, 1, 2, 1, 2, 2, 2, 1]
        self.assertEqual(told(*[pe_order(what) for what in whats]),
                         [[k + 1] + sent_order(what, k + 1) for k, what in enumerate(whats)])
        self.assertEqual(known(*[pe_order(what) for what in whats[:7]]), [0, 7, 2, 0, 0, 0, 0, 0, 0])

    def test_as_many_as_a_line_has(self):
        rows = told(*[pe_order(1 + k % 2) for k in range(198)], pe_state())
        self.assertEqual(rows[:-1], [[k + 1] + sent_order(1 + k % 2, k + 1) for k in range(198)])
        self.assertEqual(rows[-1], [0, 198, 2, 0, 0, 0, 0, 0, 0])

    def test_another_what(self):
        for what in (0, 3, 4, 255, 256, 257, 258, 65537, GREATEST):
            with self.subTest(what=what):
                self.assertEqual(told(pe_order(what), pe_state()), [[-22], AT_FIRST])

    def test_a_refused_one_changes_nothing(self):
        for what in (0, 3, GREATEST):
            rows = told(pe_order(AWAY), answered(AWAY, 1), reported(3), pe_state(), pe_order(what), pe_state(),
                        pe_order(ALONGSIDE))
            self.assertEqual(rows[3:], [[0, 1, 2, 1, 3, 1, 4, 5, 24], [-22], [0, 1, 2, 1, 3, 1, 4, 5, 24],
                                        [2] + sent_order(ALONGSIDE, 2)])

    def test_a_refused_one_is_not_sent_later(self):
        rows = told(pe_order(ALONGSIDE), pe_order(3), *[pe_tick()] * 5)
        self.assertEqual(rows[-1], [0] + sent_order(ALONGSIDE, 1))

    def test_a_new_one_is_not_answered(self):
        self.assertEqual(known(pe_order(1), answered(1, 1)), [0, 1, 1, 1, 0, 0, 0, 0, 0])
        self.assertEqual(known(pe_order(1), answered(1, 1), pe_order(1)), [0, 2, 1, 0, 0, 0, 0, 0, 0])
        self.assertEqual(known(pe_order(1), answered(1, 1), pe_order(2)), [0, 2, 2, 0, 0, 0, 0, 0, 0])
        self.assertEqual(known(pe_order(1), pe_order(2)), [0, 2, 2, 0, 0, 0, 0, 0, 0])

    def test_the_last_report_stays(self):
        self.assertEqual(known(reported(9), pe_order(1)), [0, 1, 1, 0, 9, 1, 4, 5, 24])


class TooManyOrders(unittest.TestCase):
    """More than a line has calls: asked of the people's end itself."""

    @classmethod
    def setUpClass(cls):
        cls.people = PeoplesEnd()
        cls.people.start()
        cls.rows = [cls.people.order(1 + k % 2) for k in range(65535)]

    def test_it(self):
        self.assertEqual([row[0] for row in self.rows], list(range(1, 65536)))
        self.assertEqual(self.people.told_state(), [0, 65535, 1, 0, 0, 0, 0, 0, 0])
        for what in (ALONGSIDE, AWAY):
            self.assertEqual(self.people.order(what), [-28])
        self.assertEqual(self.people.told_state(), [0, 65535, 1, 0, 0, 0, 0, 0, 0])

    def test_the_refusal_that_is_told_first(self):
        for what in (0, 3, GREATEST):
            self.assertEqual(self.people.order(what), [-22])

    def test_numbers_of_two_bytes(self):
        self.assertEqual(self.rows[254], [255, 1, 1, 1, 255, 0, 0, 0, 0, 0])
        self.assertEqual(self.rows[255], [256, 1, 1, 2, 0, 1, 0, 0, 0, 0])
        self.assertEqual(self.rows[65533], [65534, 1, 1, 2, 254, 255, 0, 0, 0, 0])
        self.assertEqual(self.rows[65534], [65535, 1, 1, 1, 255, 255, 0, 0, 0, 0])

    def test_answers_to_numbers_of_two_bytes(self):
        people = PeoplesEnd()
        for k in range(258):
            people.order(1)
        for low, high in [(2, 0), (1, 2), (0, 1), (1, 1), (3, 1), (255, 255)]:
            self.assertEqual(people.heard([2, 1, low, high, 0, 0, 0, 0]), [0])
            self.assertEqual(people.told_state()[1:4], [258, 1, 0])
        self.assertEqual(people.heard([2, 1, 2, 1, 0, 0, 0, 0]), [0])
        self.assertEqual(people.told_state()[1:4], [258, 1, 1])

    def test_anew(self):
        people = PeoplesEnd()
        for k in range(65535):
            people.order(1)
        self.assertEqual(people.order(1), [-28])
        self.assertEqual(people.start(), [0])
        self.assertEqual(people.order(2), [1] + sent_order(2, 1))


class NoMessageAsTold(unittest.TestCase):
    def check(self, *messages):
        """Refused, and nothing changes, behind an order that isn't answered and a report."""
        before = [0, 5, 2, 0, 3, 1, 4, 5, 24]
        for m in messages:
            with self.subTest(m=m):
                rows = told(*[pe_order(2)] * 5, reported(3), pe_state(), pe_heard(m), pe_state())
                self.assertEqual(rows[6:], [before, [-71], before])

    def test_how_many_bytes(self):
        for whole in ([2, 2, 5, 0, 0, 0, 0, 0, 0, 0, 0, 0], [3, 2, 9, 9, 9, 9, 0, 0, 0, 0, 0, 0],
                      [3, 2, 9, 9, 9, 9, 9, 9, 9, 9, 9, 9]):
            self.check(*[whole[:count] for count in range(13) if count != 8])

    def test_an_order(self):
        self.check([1, 1, 5, 0, 0, 0, 0, 0], [1, 2, 5, 0, 0, 0, 0, 0], [1, 2, 9, 9, 9, 9, 0, 0])

    def test_another_first_byte(self):
        for first in (0, 4, 5, 255):
            self.check([first, 2, 5, 0, 0, 0, 0, 0], [first, 2, 9, 9, 9, 9, 0, 0])

    def test_an_answer_with_another_what(self):
        self.check(*[[2, what, 5, 0, 0, 0, 0, 0] for what in (0, 3, 5, 255)])

    def test_an_answer_with_number_0(self):
        self.check([2, 1, 0, 0, 0, 0, 0, 0], [2, 2, 0, 0, 0, 0, 0, 0])

    def test_an_answer_with_number_0_at_first(self):
        self.assertEqual(told(pe_heard([2, 1, 0, 0, 0, 0, 0, 0]), pe_state()), [[-71], AT_FIRST])

    def test_an_answer_with_a_byte_behind_the_number(self):
        for k in range(4, 8):
            for byte in (1, 255):
                m = [2, 2, 5, 0, 0, 0, 0, 0]
                m[k] = byte
                self.check(m)

    def test_a_report_with_another_what(self):
        self.check(*[[3, what, 9, 9, 9, 9, 0, 0] for what in (6, 7, 255)])

    def test_a_report_with_another_place(self):
        for number in (32, 33, 255):
            self.check([3, 1, number, 9, 9, 9, 0, 0], [3, 1, 9, number, 9, 9, 0, 0])

    def test_a_report_with_another_speed(self):
        self.check(*[[3, 1, 9, 9, speed, 9, 0, 0] for speed in (49, 50, 255)])

    def test_a_report_with_number_0(self):
        self.check([3, 1, 9, 9, 9, 0, 0, 0])

    def test_a_report_with_number_0_at_first(self):
        self.assertEqual(told(pe_heard([3, 1, 9, 9, 9, 0, 0, 0]), pe_state()), [[-71], AT_FIRST])


class Answers(unittest.TestCase):
    def check(self, calls, order):
        rows = ask(pe_start(), *calls, pe_state())
        self.assertEqual(rows[-2:], [[0], [0] + order + [0, 0, 0, 0, 0]])

    def test_to_the_last_order(self):
        self.check([pe_order(1), answered(1, 1)], [1, 1, 1])
        self.check([pe_order(2), answered(2, 1)], [1, 2, 1])
        self.check([pe_order(1), pe_order(2), pe_order(1), answered(1, 3)], [3, 1, 1])

    def test_again(self):
        self.check([pe_order(1), answered(1, 1), answered(1, 1)], [1, 1, 1])

    def test_to_an_older_one(self):
        self.check([pe_order(1), pe_order(2), answered(1, 1)], [2, 2, 0])
        self.check([pe_order(2), pe_order(2), pe_order(2), answered(2, 2)], [3, 2, 0])

    def test_to_an_older_one_behind_that_to_the_last(self):
        self.check([pe_order(1), pe_order(2), answered(2, 2), answered(1, 1)], [2, 2, 1])

    def test_to_one_that_was_never_sent(self):
        self.check([pe_order(1), answered(1, 2)], [1, 1, 0])
        self.check([pe_order(1), answered(1, 257)], [1, 1, 0])
        self.check([pe_order(1), answered(1, 65535)], [1, 1, 0])

    def test_to_one_that_is_sent_only_later(self):
        self.assertEqual(known(pe_order(1), answered(1, 2), pe_order(1)), [0, 2, 1, 0, 0, 0, 0, 0, 0])

    def test_when_there_was_no_order(self):
        self.check([answered(1, 1)], [0, 0, 0])
        self.check([answered(2, 65535)], [0, 0, 0])
        self.assertEqual(known(answered(1, 1), pe_order(1)), [0, 1, 1, 0, 0, 0, 0, 0, 0])

    def test_with_the_other_what(self):
        # It's the number that tells which order is answered; what was ordered stays.
        self.check([pe_order(1), answered(2, 1)], [1, 1, 1])
        self.check([pe_order(2), answered(1, 1)], [1, 2, 1])

    def test_reports_stay(self):
        self.assertEqual(known(pe_order(1), reported(7), answered(1, 1)), [0, 1, 1, 1, 7, 1, 4, 5, 24])


class Reports(unittest.TestCase):
    def check(self, calls, report):
        rows = ask(pe_start(), *calls, pe_state())
        self.assertEqual(rows[-2:], [[0], [0, 0, 0, 0] + report])

    def test_the_first_one(self):
        self.check([reported(1)], [1, 1, 4, 5, 24])
        self.check([reported(200)], [200, 1, 4, 5, 24])

    def test_each_of_its_numbers(self):
        for what in range(6):
            self.check([reported(2, what=what)], [2, what, 4, 5, 24])
        for place in (0, 1, 30, 31):
            self.check([reported(2, x=place)], [2, 1, place, 5, 24])
            self.check([reported(2, y=place)], [2, 1, 4, place, 24])
        for speed in (0, 1, 47, 48):
            self.check([reported(2, speed=speed)], [2, 1, 4, 5, speed])
        self.check([reported(2, 0, 0, 0, 0)], [2, 0, 0, 0, 0])
        self.check([reported(2, 5, 31, 31, 48)], [2, 5, 31, 31, 48])
        self.check([reported(2, 4, 31, 31, 48)], [2, 4, 31, 31, 48])

    def test_the_bytes_of_its_number(self):
        for number, low in [(255, [255, 0, 0]), (256, [0, 1, 0]), (65535, [255, 255, 0]), (65536, [0, 0, 1]),
                            (197121, [1, 2, 3]), (16777215, [255, 255, 255])]:
            self.check([pe_heard([3, 2, 6, 7, 8] + low)], [number, 2, 6, 7, 8])

    def test_one_above_the_last(self):
        self.check([reported(1), reported(2, 2, 6, 7, 8)], [2, 2, 6, 7, 8])
        self.check([reported(1), reported(9, 2, 6, 7, 8)], [9, 2, 6, 7, 8])
        self.check([reported(255), reported(256, 2, 6, 7, 8)], [256, 2, 6, 7, 8])
        self.check([reported(65535), reported(65536, 2, 6, 7, 8)], [65536, 2, 6, 7, 8])
        self.check([reported(16777214), reported(16777215, 2, 6, 7, 8)], [16777215, 2, 6, 7, 8])

    def test_the_last_one_again(self):
        self.check([reported(3), reported(3)], [3, 1, 4, 5, 24])
        self.check([reported(3), reported(3, 2, 6, 7, 8)], [3, 1, 4, 5, 24])

    def test_one_that_was_overtaken(self):
        for last, late in [(2, 1), (9, 3), (256, 255), (65536, 65535), (65536, 255), (197121, 131841)]:
            self.check([reported(last), reported(late, 2, 6, 7, 8)], [last, 1, 4, 5, 24])

    def test_orders_stay(self):
        self.assertEqual(known(pe_order(2), reported(7)), [0, 1, 2, 0, 7, 1, 4, 5, 24])
        self.assertEqual(known(pe_order(2), answered(2, 1), reported(7)), [0, 1, 2, 1, 7, 1, 4, 5, 24])
        # Its number is that of ticks, and answers no order.
        self.assertEqual(known(pe_order(2), reported(1)), [0, 1, 2, 0, 1, 1, 4, 5, 24])


class Ticks(unittest.TestCase):
    def sending(self, rows, order):
        """At which of the ticks the order was sent, the first one being 1."""
        for row in rows:
            self.assertIn(row, [[0], [0] + order])
        return [k + 1 for k, row in enumerate(rows) if row != [0]]

    def test_each_fifth_one(self):
        rows = told(pe_order(AWAY), *[pe_tick()] * 198)
        self.assertEqual(self.sending(rows[1:], sent_order(AWAY, 1)), list(range(5, 199, 5)))

    def test_its_bytes(self):
        rows = told(pe_order(ALONGSIDE), *[pe_tick()] * 5)
        self.assertEqual(rows[1:], [[0], [0], [0], [0], [0, 1, 1, 1, 1, 0, 0, 0, 0, 0]])

    def test_no_order_yet(self):
        self.assertEqual(told(*[pe_tick()] * 20), [[0]] * 20)

    def test_an_order_behind_some_of_them(self):
        for before in range(12):
            rows = told(*[pe_tick()] * before, pe_order(ALONGSIDE), *[pe_tick()] * 12)
            self.assertEqual(rows[:before], [[0]] * before)
            sending = self.sending(rows[before + 1:], sent_order(ALONGSIDE, 1))
            self.assertEqual([before + k for k in sending], [k for k in (5, 10, 15, 20) if before < k <= before + 12])

    def test_the_order_is_answered(self):
        rows = told(pe_order(ALONGSIDE), answered(ALONGSIDE, 1), *[pe_tick()] * 20)
        self.assertEqual(rows[2:], [[0]] * 20)

    def test_the_order_is_answered_behind_some_of_them(self):
        for before in range(12):
            rows = told(pe_order(ALONGSIDE), *[pe_tick()] * before, answered(ALONGSIDE, 1), *[pe_tick()] * 12)
            self.assertEqual(self.sending(rows[1:before + 1], sent_order(ALONGSIDE, 1)),
                             [k for k in (5, 10) if k <= before])
            self.assertEqual(rows[before + 1:], [[0]] * 13)

    def test_an_older_one_is_answered(self):
        rows = told(pe_order(ALONGSIDE), pe_order(AWAY), answered(ALONGSIDE, 1), *[pe_tick()] * 10)
        self.assertEqual(self.sending(rows[3:], sent_order(AWAY, 2)), [5, 10])

    def test_a_newer_one_is_sent_alone(self):
        rows = told(pe_order(ALONGSIDE), *[pe_tick()] * 5, pe_order(AWAY), *[pe_tick()] * 5)
        self.assertEqual(self.sending(rows[1:6], sent_order(ALONGSIDE, 1)), [5])
        self.assertEqual(self.sending(rows[7:], sent_order(AWAY, 2)), [5])

    def test_a_newer_one_behind_one_that_is_answered(self):
        rows = told(pe_order(ALONGSIDE), *[pe_tick()] * 3, answered(ALONGSIDE, 1), pe_order(AWAY), *[pe_tick()] * 7)
        self.assertEqual(self.sending(rows[6:], sent_order(AWAY, 2)), [2, 7])

    def test_other_calls_do_not_count(self):
        between = [pe_state(), reported(1), pe_heard([]), pe_order(0)]
        rows = told(pe_order(ALONGSIDE), *[call for k in range(10) for call in [pe_tick()] + between])
        self.assertEqual(self.sending(rows[1::5], sent_order(ALONGSIDE, 1)), [5, 10])

    def test_nothing_else_changes(self):
        before = [pe_order(AWAY), reported(7)]
        for count in (1, 4, 5, 6, 10):
            self.assertEqual(known(*before, *[pe_tick()] * count), known(*before))


class State(unittest.TestCase):
    def test_at_first(self):
        self.assertEqual(told(pe_state(), pe_state()), [AT_FIRST, AT_FIRST])

    def test_one_behind_another(self):
        rows = told(pe_order(ALONGSIDE), pe_state(), answered(ALONGSIDE, 1), pe_state(), reported(3, 2, 6, 7, 8),
                    pe_state(), pe_order(AWAY), pe_state(), answered(AWAY, 2), reported(300, 5, 31, 0, 48), pe_state())
        self.assertEqual([rows[k] for k in (1, 3, 5, 7, 10)], [
            [0, 1, 1, 0, 0, 0, 0, 0, 0],
            [0, 1, 1, 1, 0, 0, 0, 0, 0],
            [0, 1, 1, 1, 3, 2, 6, 7, 8],
            [0, 2, 2, 0, 3, 2, 6, 7, 8],
            [0, 2, 2, 1, 300, 5, 31, 0, 48]])

    def test_behind_refused_calls(self):
        before = [pe_order(AWAY), answered(AWAY, 1), reported(3, 2, 6, 7, 8)]
        for call in (pe_order(0), pe_order(3), pe_heard([]), pe_heard([2, 0, 1, 0, 0, 0, 0, 0]),
                     pe_heard([3, 6, 9, 9, 9, 9, 0, 0]), pe_heard([1, 1, 2, 0, 0, 0, 0, 0])):
            rows = told(*before, call, pe_state())
            self.assertLess(rows[3][0], 0)
            self.assertEqual(rows[3:], [rows[3][:1], [0, 1, 2, 1, 3, 2, 6, 7, 8]])

    def test_asking_changes_nothing(self):
        rows = told(pe_order(AWAY), reported(3), pe_state(), pe_state(), pe_state())
        self.assertEqual(rows[2:], [[0, 1, 2, 0, 3, 1, 4, 5, 24]] * 3)


class Anew(unittest.TestCase):
    BEFORE = [pe_order(ALONGSIDE), pe_order(AWAY), answered(AWAY, 2), reported(9), pe_tick(), pe_tick(), pe_tick()]

    def test_all_is_as_at_first(self):
        rows = told(*self.BEFORE, pe_start(), pe_state())
        self.assertEqual(rows[-2:], [[0], AT_FIRST])

    def test_orders(self):
        rows = told(*self.BEFORE, pe_start(), pe_order(AWAY), pe_state())
        self.assertEqual(rows[-2:], [[1] + sent_order(AWAY, 1), [0, 1, 2, 0, 0, 0, 0, 0, 0]])

    def test_an_order_that_was_not_answered_is_not_sent_again(self):
        rows = told(pe_order(ALONGSIDE), pe_start(), *[pe_tick()] * 10)
        self.assertEqual(rows[1:], [[0]] * 11)

    def test_reports(self):
        rows = told(*self.BEFORE, pe_start(), reported(2, 3, 6, 7, 8), pe_state())
        self.assertEqual(rows[-1], [0, 0, 0, 0, 2, 3, 6, 7, 8])

    def test_ticks(self):
        for before in range(11):
            rows = told(*[pe_tick()] * before, pe_start(), pe_order(AWAY), *[pe_tick()] * 5)
            self.assertEqual(rows[-5:], [[0], [0], [0], [0], [0] + sent_order(AWAY, 1)])


if __name__ == "__main__":
    unittest.main()
