"""The eight bytes of orders, answers and reports."""

from softport.motion import SPEED_COUNT, speed_number

MESSAGE_LENGTH = 8
ORDER = 1
ANSWER = 2
REPORT = 3
ALONGSIDE = 1
AWAY = 2
GREATEST_WHAT = 5
GREATEST_PLACE = 31


def is_order(m):
    """Whether the bytes are an order as told."""
    return is_message(m, ORDER) and is_of_an_order(m)


def is_answer(m):
    """Whether the bytes are an answer as told."""
    return is_message(m, ANSWER) and is_of_an_order(m)


def is_report(m):
    """Whether the bytes are a report as told."""
    if not is_message(m, REPORT) or m[1] > GREATEST_WHAT:
        return False
    if m[2] > GREATEST_PLACE or m[3] > GREATEST_PLACE or m[4] >= SPEED_COUNT:
        return False
    return number_of_report(m) != 0


def is_message(m, first):
    return len(m) == MESSAGE_LENGTH and m[0] == first


def is_of_an_order(m):
    """Whether what stands behind the first byte is as in an order, which an answer repeats."""
    return is_order_what(m[1]) and number_of_order(m) != 0 and m[4:] == [0, 0, 0, 0]


def is_order_what(what):
    return what in (ALONGSIDE, AWAY)


def what_of(m):
    return m[1]


def number_of_order(m):
    """The order's number, in an order or in an answer."""
    return number_from(m[2:4])


def number_of_report(m):
    return number_from(m[5:])


def state_told(m):
    """The report's x, y and speed."""
    return m[2:5]


def order_to(what, number):
    return of_an_order(ORDER, what, number)


def answer_to(what, number):
    return of_an_order(ANSWER, what, number)


def of_an_order(first, what, number):
    return [first, what] + low_first(number, 2) + [0, 0, 0, 0]


def report_of(what, state, number):
    return [REPORT, what, state[0], state[1], speed_number(state[2], state[3])] + low_first(number, 3)


def report_without_state(what, number):
    return [REPORT, what, 0, 0, 0] + low_first(number, 3)


def low_first(number, count):
    rest = number
    row = []
    for place in range(count):
        row.append(rest % 256)
        rest = rest // 256
    return row


def number_from(row):
    """The number of which these are the bytes, the lowest first."""
    number = 0
    for byte in reversed(row):
        number = 256 * number + byte
    return number


def sent(message):
    """How a message that was sent is told behind an answer."""
    return [1] + message
