"""Within how many ticks a craft is sure to be there, or is away, and by which burns."""

from softport.motion import SPEED_COUNT, behind_tick, burns_at, less_than, speed_number, speed_parts

MOST_TICKS = 250
MOST_MISFIRES = 7


class SureRoutes:
    """levels[n][g][k]: the places that, with the speed of number k, are sure within n ticks with g misfires.

    The levels end where one more tick would add nothing to the last one, or at the most ticks.
    """

    def __init__(self, chart, drifts):
        self.field = chart.field
        self.drifts = drifts
        self.levels = sure_levels(chart, drifts)

    def is_sure(self, state, ticks, misfires):
        level = self.levels[min(ticks, len(self.levels) - 1)]
        return has_state(self.field, level[misfires], state)

    def most_misfires(self, state):
        """With how many misfires it's sure, at most; None if not even with none."""
        for misfires in range(MOST_MISFIRES, -1, -1):
            if self.is_sure(state, MOST_TICKS, misfires):
                return misfires
        return None

    def chosen_burn(self, state, misfires):
        """Asked of states that are sure with so many misfires, and not there yet."""
        ticks = 1
        while not self.is_sure(state, ticks, misfires):
            ticks += 1
        good = [burn for burn in burns_at(state[2], state[3]) if self.is_sure_by(state, burn, ticks, misfires)]
        return good[0]

    def is_sure_by(self, state, burn, ticks, misfires):
        if not self.drifts.is_free(state, burn):
            return False
        if not self.is_sure(behind_tick(state, burn), ticks - 1, misfires):
            return False
        if misfires == 0:
            return True
        return all([self.is_sure(behind_tick(state, come), ticks - 1, misfires - 1) for come in less_than(burn)])


class AwayRoutes:
    """levels[n][k]: the field's places that, with the speed of number k, are away within n ticks."""

    def __init__(self, chart, drifts):
        self.field = chart.field
        self.drifts = drifts
        self.levels = away_levels(chart, drifts)

    def is_away(self, state, ticks):
        if not self.field.has(state[0], state[1]):
            return True
        return has_state(self.field, self.levels[min(ticks, len(self.levels) - 1)], state)

    def chosen_burn(self, state):
        """Asked of states here that are away within the most ticks."""
        ticks = 1
        while not self.is_away(state, ticks):
            ticks += 1
        good = [burn for burn in burns_at(state[2], state[3]) if self.is_away_by(state, burn, ticks)]
        return good[0]

    def is_away_by(self, state, burn, ticks):
        return self.drifts.is_free(state, burn) and self.is_away(behind_tick(state, burn), ticks - 1)


def has_state(field, places_by_speed, state):
    """A state out of the field is in none of them."""
    if not field.has(state[0], state[1]):
        return False
    return places_by_speed[speed_number(state[2], state[3])] & field.place(state[0], state[1]) != 0


def sure_levels(chart, drifts):
    there = there_places(chart)
    moves = moves_by_speed()
    levels = [[there for misfires in range(MOST_MISFIRES + 1)]]
    while len(levels) <= MOST_TICKS:
        level = next_sure_level(chart.field, drifts.harmless, there, moves, levels[-1])
        if level == levels[-1]:
            break
        levels.append(level)
    return levels


def next_sure_level(field, harmless, there, moves, level):
    following = []
    # Where no misfire is counted with, what comes of one needs to be harmless and nothing more.
    on_misfire = harmless
    for sure in level:
        on_time = [harmless[k] & before_drift(field, sure[k], k) for k in range(SPEED_COUNT)]
        burning = places_by_burns(moves, on_time, on_misfire)
        following.append([there[k] | burning[k] for k in range(SPEED_COUNT)])
        on_misfire = on_time
    return following


def away_levels(chart, drifts):
    there = there_places(chart)
    moves = moves_by_speed()
    levels = [[0 for k in range(SPEED_COUNT)]]
    while len(levels) <= MOST_TICKS:
        level = next_away_level(chart.field, drifts.harmless, there, moves, levels[-1])
        if level == levels[-1]:
            break
        levels.append(level)
    return levels


def next_away_level(field, harmless, there, moves, away):
    # What isn't led to a place of the field that isn't away is led to one that is, or out of the field.
    staying = [field.everywhere & ~places for places in away]
    on_time = [harmless[k] & ~before_drift(field, staying[k], k) for k in range(SPEED_COUNT)]
    burning = places_by_burns(moves, on_time, harmless)
    return [burning[k] & ~there[k] for k in range(SPEED_COUNT)]


def there_places(chart):
    places = [0 for k in range(SPEED_COUNT)]
    places[speed_number(chart.heading[0], chart.heading[1])] = chart.field.place(chart.port[0], chart.port[1])
    return places


def moves_by_speed():
    """For each speed its burns, each as the speed behind all of it and the speeds behind less."""
    moves = []
    for k in range(SPEED_COUNT):
        speed = speed_parts(k)
        moves.append([speeds_behind(speed, burn) for burn in burns_at(speed[0], speed[1])])
    return moves


def speeds_behind(speed, burn):
    return (number_behind(speed, burn), [number_behind(speed, come) for come in less_than(burn)])


def number_behind(speed, come):
    return speed_number(speed[0] + come[0], speed[1] + come[1])


def before_drift(field, places, k):
    speed = speed_parts(k)
    return field.before(places, speed[0], speed[1])


def places_by_burns(moves, on_time, on_misfire):
    """For each speed, the places with a burn that leads to on_time if all of it comes, to on_misfire if less."""
    places_by_speed = []
    for burns in moves:
        places = 0
        for whole, lesser in burns:
            good = on_time[whole]
            for less in lesser:
                good = good & on_misfire[less]
            places = places | good
        places_by_speed.append(places)
    return places_by_speed
