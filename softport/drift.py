"""Which states are harmless, and which burns are free."""

from softport.motion import SPEED_COUNT, behind_burn, less_than, speed_number, speed_parts


class Drifts:
    """The harmless states of a map: for each speed, by its number, the places."""

    def __init__(self, chart):
        self.field = chart.field
        self.harmless = [harmless_places(chart, speed_parts(k)) for k in range(SPEED_COUNT)]

    def is_harmless(self, state):
        """Asked of states here alone."""
        place = self.field.place(state[0], state[1])
        return self.harmless[speed_number(state[2], state[3])] & place != 0

    def is_free(self, state, burn):
        return all([self.is_harmless(behind_burn(state, come)) for come in [burn] + less_than(burn)])


def harmless_places(chart, speed):
    field = chart.field
    soon = touching_soon(chart, speed)
    harmless = field.everywhere & ~touching_ever(field, soon, speed)
    if speed == chart.heading:
        harmless = harmless | coming_to_port(chart, soon)
    return harmless


def touching_soon(chart, speed):
    """The places from which a drift touches a box at a moment from 0 on, before 1.

    The first moment at which it does is 0, or one at which x or y is whole at a box's rim. With parts of the
    speed of 1, 2 or 3 that is a whole number of sixths, so that no other moments need to be looked at.
    """
    places = 0
    for sixths in range(6):
        across = sixths * speed[0]
        along = sixths * speed[1]
        for box in chart.boxes:
            # Rounded towards the box's inside: a place is left only if its point at that moment is in the box.
            places = places | chart.field.block(
                box[0] - across // 6, box[1] - along // 6,
                box[2] + (-across) // 6, box[3] + (-along) // 6)
    return places


def touching_ever(field, soon, speed):
    """The places from which a drift touches a box at any moment from 0 on."""
    places = soon
    # Boxes are within the field, and whatever drifts is out of it, for ever, in so many ticks.
    for tick in range(max(field.width, field.height)):
        places = soon | field.before(places, speed[0], speed[1])
    return places


def coming_to_port(chart, soon):
    """The places from which a drift by the port's way comes to the port and touches no box before."""
    field = chart.field
    latest = field.place(chart.port[0], chart.port[1])
    places = 0
    while latest != 0:
        places = places | latest
        latest = field.before(latest, chart.heading[0], chart.heading[1]) & ~soon
    return places
