"""The eight bytes of orders, answers and reports."""

from softport.motion import speed_number

ORDER = 1
ANSWER = 2
REPORT = 3
ALONGSIDE = 1
AWAY = 2


def is_order(m):
    """Whether the bytes are an order as told."""
    if len(m) != 8 or m[0] != ORDER or m[1] not in (ALONGSIDE, AWAY):
        return False
    return order_number(m) != 0 and m[4:] == [0, 0, 0, 0]


def order_what(m):
    return m[1]


def order_number(m):
    return m[2] + 256 * m[3]


def answer_to(what, number):
    return [ANSWER, what] + low_first(number, 2) + [0, 0, 0, 0]


def report_of(what, state, number):
    return [REPORT, what, state[0], state[1], speed_number(state[2], state[3])] + low_first(number, 3)


def report_without_state(what, number):
    return [REPORT, what, 0, 0, 0] + low_first(number, 3)


def low_first(number, count):
    rest = number
    row = []
    for place in range(count):
        row.append(rest % 256)
        rest = rest // 256
    return row


def sent(message):
    """How a message that was sent is told behind an answer."""
    return [1] + message
