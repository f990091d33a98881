"""The people's end of the link: what they order, and what they know of the craft."""

from softport.messages import is_answer, is_order_what, is_report, number_of_order, number_of_report
from softport.messages import order_to, sent, state_told, what_of
from softport.refusals import NO_MESSAGE, NOT_AS_TOLD, TOO_MANY

MOST_ORDERS = 65535
TICKS_BETWEEN = 5


class PeoplesEnd:
    def __init__(self):
        self.begin()

    def begin(self):
        self.order_number = 0
        self.order_what = 0
        self.order_answered = False
        self.report_number = 0
        self.report_what = 0
        self.report_state = [0, 0, 0]
        self.tick_count = 0

    def start(self):
        self.begin()
        return [0]

    def order(self, what):
        if not is_order_what(what):
            return [NOT_AS_TOLD]
        if self.order_number == MOST_ORDERS:
            return [TOO_MANY]
        self.order_number += 1
        self.order_what = what
        self.order_answered = False
        return [self.order_number] + self.sent_order()

    def sent_order(self):
        return sent(order_to(self.order_what, self.order_number))

    def heard(self, m):
        if is_answer(m):
            self.hear_answer(m)
            return [0]
        if is_report(m):
            self.hear_report(m)
            return [0]
        return [NO_MESSAGE]

    def hear_answer(self, m):
        # Number 0, that of no order yet, is in no answer as told.
        if number_of_order(m) == self.order_number:
            self.order_answered = True

    def hear_report(self, m):
        if number_of_report(m) > self.report_number:
            self.report_number = number_of_report(m)
            self.report_what = what_of(m)
            self.report_state = state_told(m)

    def tick(self):
        self.tick_count += 1
        if self.tick_count % TICKS_BETWEEN == 0 and self.awaits_answer():
            return [0] + self.sent_order()
        return [0]

    def awaits_answer(self):
        return self.order_number != 0 and not self.order_answered

    def told_state(self):
        answered = 1 if self.order_answered else 0
        last_order = [self.order_number, self.order_what, answered]
        last_report = [self.report_number, self.report_what] + self.report_state
        return [0] + last_order + last_report
