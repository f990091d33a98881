"""Speeds, burns and ticks: how a state (x, y, vx, vy) goes on."""

FASTEST = 3
SPEED_COUNT = 49

# In the order in which one of several that are as good is chosen:
# the fewest parts that aren't 0 first, of these the least 3 a + b.
BURNS = (
    (0, 0),
    (-1, 0), (0, -1), (0, 1), (1, 0),
    (-1, -1), (-1, 1), (1, -1), (1, 1),
)


def is_speed(vx, vy):
    return -FASTEST <= vx <= FASTEST and -FASTEST <= vy <= FASTEST


def speed_number(vx, vy):
    """The speed as one number from 0 to 48, as reports tell it."""
    return 7 * (vx + 3) + vy + 3


def speed_parts(number):
    return (number // 7 - 3, number % 7 - 3)


def burns_at(vx, vy):
    """The burns behind which each part of the speed is from -3 to 3, in the order of choice."""
    return [burn for burn in BURNS if is_speed(vx + burn[0], vy + burn[1])]


def less_than(burn):
    """What may come of the burn in a misfire."""
    return [come for come in BURNS if come != burn and come[0] in (0, burn[0]) and come[1] in (0, burn[1])]


def behind_burn(state, come):
    """The place with the speed behind what came of a burn."""
    return (state[0], state[1], state[2] + come[0], state[3] + come[1])


def behind_tick(state, come):
    vx = state[2] + come[0]
    vy = state[3] + come[1]
    return (state[0] + vx, state[1] + vy, vx, vy)
