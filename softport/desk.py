"""A line of calls, read one behind another and answered in order."""

from softport.craft import Craft
from softport.people import PeoplesEnd

CR_START = 0
CR_TICK = 1
CR_HEARD = 2
CR_STATE = 3
PE_START = 4
PE_ORDER = 5
PE_HEARD = 6
PE_TICK = 7
PE_STATE = 8

# For each call, by its number: how many whole numbers stand behind that, and whether a row follows them.
NUMBERS_OF = (7, 4, 0, 0, 0, 1, 0, 0, 0)
HAS_ROW = (True, False, True, False, False, False, True, False, False)


def answers(calls):
    """For each call of the line, in order: how many numbers are answered, and these."""
    craft = Craft()
    people = PeoplesEnd()
    given = []
    at = 0
    while at < len(calls):
        call = calls[at]
        row_at = at + 1 + NUMBERS_OF[call]
        numbers = calls[at + 1:row_at]
        row = []
        at = row_at
        if HAS_ROW[call]:
            at = row_at + 1 + calls[row_at]
            row = calls[row_at + 1:at]
        answer = answer_call(craft, people, call, numbers, row)
        given.append(len(answer))
        given.extend(answer)
    return given


def answer_call(craft, people, call, numbers, row):
    if call < PE_START:
        return answer_of_craft(craft, call, numbers, row)
    return answer_of_people(people, call, numbers, row)


def answer_of_craft(craft, call, numbers, row):
    if call == CR_START:
        return craft.start(numbers, row)
    if call == CR_TICK:
        return craft.tick(tuple(numbers))
    if call == CR_HEARD:
        return craft.heard(row)
    return craft.told_state()


def answer_of_people(people, call, numbers, row):
    if call == PE_START:
        return people.start()
    if call == PE_ORDER:
        return people.order(numbers[0])
    if call == PE_HEARD:
        return people.heard(row)
    if call == PE_TICK:
        return people.tick()
    return people.told_state()
