"""What the tests share: calls as they are handed in, and the document's words once more, slow and plain.

Nothing here draws from the package but `answers`, so that what the words say is worked out twice.
"""

from fractions import Fraction
from itertools import product
from random import Random

from softport.desk import answers

HEADINGS = [(1, 0), (0, 1), (-1, 0), (0, -1)]
ALONGSIDE = 1
AWAY = 2


# --- calls, and what is answered

def cr_start(w, h, way, px, py, boxes, none_one=0, none_two=0):
    row = [number for box in boxes for number in box]
    return [0, w, h, way, px, py, none_one, none_two, len(row)] + row


def cr_tick(x, y, vx, vy):
    return [1, x, y, vx, vy]


def cr_heard(m):
    return [2, len(m)] + list(m)


def order(what, number):
    return cr_heard([1, what, number % 256, number // 256, 0, 0, 0, 0])


def cr_state():
    return [3]


def pe_start():
    return [4]


def pe_order(what):
    return [5, what]


def pe_heard(m):
    return [6, len(m)] + list(m)


def pe_tick():
    return [7]


def pe_state():
    return [8]


def split(given):
    """A list for each call."""
    rows = []
    at = 0
    while at < len(given):
        rows.append(given[at + 1:at + 1 + given[at]])
        at += 1 + given[at]
    return rows


def ask(*calls):
    return split(answers([number for call in calls for number in call]))


def report(what, x, y, vx, vy, number):
    return [1, 3, what, x, y, 7 * (vx + 3) + vy + 3, number % 256, number // 256 % 256, number // 65536]


def answer(what, number):
    return [1, 2, what, number % 256, number // 256, 0, 0, 0, 0]


def sent_order(what, number):
    return [1, 1, what, number % 256, number // 256, 0, 0, 0, 0]


# --- maps, states, burns

class World:
    """A map as told, and what the words say of its states."""

    def __init__(self, w, h, way, px, py, boxes):
        self.told = (w, h, way, px, py, boxes)
        self.w = w
        self.h = h
        self.boxes = boxes
        self.port = (px, py)
        self.d = HEADINGS[way]
        self.harmless_known = {}
        self.sure_known = None
        self.away_known = None

    def start(self):
        return cr_start(*self.told)

    def in_field(self, state):
        return 0 <= state[0] < self.w and 0 <= state[1] < self.h

    def here(self, state):
        return self.in_field(state) and max(abs(state[2]), abs(state[3])) <= 3

    def there(self, state):
        return state == self.port + self.d

    def states_here(self):
        speeds = range(-3, 4)
        return list(product(range(self.w), range(self.h), speeds, speeds))

    def first_touch(self, state):
        """The first moment at which a drift touches a box; None if it never does."""
        firsts = [first for first in (touch_of_box(state, box) for box in self.boxes) if first is not None]
        return min(firsts) if firsts else None

    def harmless(self, state):
        if state not in self.harmless_known:
            self.harmless_known[state] = self.find_harmless(state)
        return self.harmless_known[state]

    def find_harmless(self, state):
        first = self.first_touch(state)
        if first is None:
            return True
        if state[2:] != self.d:
            return False
        for ticks in range(self.w + self.h):
            if (state[0] + ticks * self.d[0], state[1] + ticks * self.d[1]) == self.port:
                return first >= ticks
        return False

    def free_burns(self, state):
        return [burn for burn in burns(state) if all(
            self.harmless((state[0], state[1], state[2] + come[0], state[3] + come[1])) for come in comings(burn))]

    def sure_levels(self, most=7):
        """levels[n][g]: the set of states that are sure within n ticks with g misfires."""
        if self.sure_known is None:
            here = [state for state in self.states_here()]
            options = {state: self.free_burns(state) for state in here}
            levels = [[{self.port + self.d} for g in range(most + 1)]]
            while len(levels) <= 250:
                last = levels[-1]
                level = [set(last[g]) for g in range(most + 1)]
                for g in range(most + 1):
                    for state in here:
                        if state not in last[g] and any(
                                sure_by(last, state, burn, g) for burn in options[state]):
                            level[g].add(state)
                if level == last:
                    break
                levels.append(level)
            self.sure_known = levels
        return self.sure_known

    def sure_within(self, state, g):
        """The least number of ticks, None if there is none."""
        for n, level in enumerate(self.sure_levels()):
            if state in level[g]:
                return n
        return None

    def sure_burn(self, state, g):
        n = self.sure_within(state, g)
        last = self.sure_levels()[n - 1]
        return chosen([burn for burn in self.free_burns(state) if sure_by(last, state, burn, g)])

    def away_levels(self):
        if self.away_known is None:
            here = [state for state in self.states_here() if not self.there(state)]
            options = {state: self.free_burns(state) for state in here}
            levels = [set()]
            while len(levels) <= 250:
                last = levels[-1]
                level = set(last)
                for state in here:
                    if any(self.away_in(last, behind(state, burn)) for burn in options[state]):
                        level.add(state)
                if level == last:
                    break
                levels.append(level)
            self.away_known = levels
        return self.away_known

    def away_in(self, level, state):
        return not self.in_field(state) or state in level

    def away_within(self, state):
        for n, level in enumerate(self.away_levels()):
            if self.away_in(level, state):
                return n
        return None

    def away_burn(self, state):
        last = self.away_levels()[self.away_within(state) - 1]
        return chosen([burn for burn in self.free_burns(state) if self.away_in(last, behind(state, burn))])


def touch_of_box(state, box):
    """The first moment, from 0 on, at which a drift is at one of the box's points."""
    first = Fraction(0)
    last = None
    for place, speed, low, high in ((state[0], state[2], box[0], box[2]), (state[1], state[3], box[1], box[3])):
        if speed == 0:
            if not low <= place <= high:
                return None
            continue
        ends = sorted([Fraction(low - place, speed), Fraction(high - place, speed)])
        first = max(first, ends[0])
        last = ends[1] if last is None else min(last, ends[1])
    return first if last is None or first <= last else None


def burns(state):
    return [(a, b) for a in (-1, 0, 1) for b in (-1, 0, 1)
            if abs(state[2] + a) <= 3 and abs(state[3] + b) <= 3]


def comings(burn):
    return {(a, b) for a in (0, burn[0]) for b in (0, burn[1])}


def behind(state, come):
    vx = state[2] + come[0]
    vy = state[3] + come[1]
    return (state[0] + vx, state[1] + vy, vx, vy)


def sure_by(last, state, burn, g):
    if behind(state, burn) not in last[g]:
        return False
    return g == 0 or all(behind(state, come) in last[g - 1] for come in comings(burn) if come != burn)


def chosen(several):
    return min(several, key=lambda burn: ((burn[0] != 0) + (burn[1] != 0), 3 * burn[0] + burn[1]))


# --- the craft

class WordsCraft:
    def __init__(self, world):
        self.world = world
        self.mode = 0
        self.number = 0
        self.ticks = 0
        self.expects = None
        self.counts = 0

    def heard(self, m):
        number = m[2] + 256 * m[3] if len(m) == 8 else 0
        if number == 0 or m[0] != 1 or m[1] not in (1, 2) or any(m[4:]):
            return [-71]
        if number < self.number:
            return [0]
        if number > self.number:
            self.number = number
            self.mode = m[1]
            self.expects = None
            self.counts = 0
        return [0] + answer(self.mode, number)

    def state(self):
        return [0, self.mode, self.counts, self.number, self.ticks]

    def tick(self, state):
        self.ticks += 1
        what, burn = self.see(state)
        told = [what] if burn == (0, 0) else [what, 0, burn[0], burn[1]]
        if what == 4:
            return told + report(4, 0, 0, -3, -3, self.ticks)
        return told + report(what, *state, self.ticks)

    def see(self, state):
        expected, counted = self.expects, self.counts
        self.expects, self.counts = None, 0
        if self.world.there(state):
            return 5, (0, 0)
        if not self.world.here(state):
            return 4, (0, 0)
        if self.mode == 0:
            return 0, (0, 0)
        if self.mode == 2:
            if self.world.away_within(state) is None:
                return 3, (0, 0)
            return 2, self.world.away_burn(state)
        counts = self.count(state, expected, counted)
        if counts is None:
            return 3, (0, 0)
        burn = self.world.sure_burn(state, counts)
        self.expects, self.counts = behind(state, burn), counts
        return 1, burn

    def count(self, state, expected, counted):
        if state == expected:
            return counted
        if expected is not None and counted > 0 and self.world.sure_within(state, counted - 1) is not None:
            return counted - 1
        sure = [g for g in range(8) if self.world.sure_within(state, g) is not None]
        return max(sure) if sure else None


# --- the people's end

class WordsPeople:
    def __init__(self):
        self.orders = []
        self.answered = []
        self.known = (0, 0, 0, 0, 0)
        self.ticks = 0

    def order(self, what):
        if what != 1 and what != 2:
            return [-22]
        if len(self.orders) == 65535:
            return [-28]
        self.orders.append(what)
        return [len(self.orders)] + self.last_order()

    def last_order(self):
        return sent_order(self.orders[-1], len(self.orders))

    def is_answered(self):
        return len(self.orders) in self.answered

    def heard(self, m):
        if len(m) != 8:
            return [-71]
        number = int.from_bytes(bytes(m[2:4]), "little")
        ticks = int.from_bytes(bytes(m[5:8]), "little")
        if m[0] == 2 and 1 <= m[1] <= 2 and number > 0 and sum(m[4:]) == 0:
            # Of one that isn't sent yet it tells nothing.
            if number == len(self.orders):
                self.answered.append(number)
            return [0]
        if m[0] == 3 and m[1] < 6 and m[2] < 32 and m[3] < 32 and m[4] < 49 and ticks > 0:
            self.known = max(self.known, (ticks, *m[1:5]), key=lambda known: known[0])
            return [0]
        return [-71]

    def tick(self):
        self.ticks += 1
        if self.ticks % 5 or not self.orders or self.is_answered():
            return [0]
        return [0] + self.last_order()

    def state(self):
        what = self.orders[-1] if self.orders else 0
        return [0, len(self.orders), what, int(self.is_answered()), *self.known]


# --- maps for several of the tests, and maps by chance, the same each time

# Where much is possible: room round a port, and a port that is come to from below.
ROOMY = [
    World(6, 5, 0, 3, 2, [(3, 1, 4, 3)]),
    World(5, 6, 3, 2, 1, [(1, 0, 3, 1), (4, 4, 4, 4)]),
]
# A port at the near corner of a box.
CORNER = World(8, 7, 0, 6, 3, [(6, 3, 7, 4)])


def some_world(random, widest=5, highest=5, most_boxes=3):
    while True:
        w = random.randint(1, widest)
        h = random.randint(1, highest)
        boxes = [some_box(random, w, h) for k in range(random.randint(1, most_boxes))]
        way = random.randrange(4)
        box = random.choice(boxes)
        port = (random.randint(box[0], box[2]), random.randint(box[1], box[3]))
        before = (port[0] - HEADINGS[way][0], port[1] - HEADINGS[way][1])
        if 0 <= before[0] < w and 0 <= before[1] < h and not any(
                box[0] <= before[0] <= box[2] and box[1] <= before[1] <= box[3] for box in boxes):
            return World(w, h, way, port[0], port[1], boxes)


def some_box(random, w, h):
    xs = sorted([random.randrange(w), random.randrange(w)])
    ys = sorted([random.randrange(h), random.randrange(h)])
    # Mostly small ones, so that there is room to go round them.
    return (xs[0], ys[0], min(xs[1], xs[0] + random.randrange(3)), min(ys[1], ys[0] + random.randrange(3)))


def some_worlds(seed, count, widest=5, highest=5, most_boxes=3):
    random = Random(seed)
    return [some_world(random, widest, highest, most_boxes) for k in range(count)]
