"""What holds: a craft lived through, tick by tick, with all that may go wrong."""

import unittest
from random import Random

from softport.chart import Chart
from softport.craft import Craft
from softport.drift import Drifts
from softport.routes import MOST_TICKS, AwayRoutes, SureRoutes
from tests.by_words import ALONGSIDE, AWAY, World, behind, comings, some_worlds

WORLDS = some_worlds(7, 20, 12, 12, 5) + [
    World(12, 12, 0, 8, 5, [(8, 3, 10, 7)]),
    World(12, 12, 1, 6, 7, [(6, 7, 6, 7), (2, 2, 3, 3), (9, 1, 9, 9)]),
    World(20, 20, 2, 9, 9, [(3, 9, 9, 9), (8, 7, 11, 7), (8, 12, 12, 12)]),
]


class Life:
    """A craft of the program's, and the state in which it really is."""

    def __init__(self, world, state):
        w, h, way, px, py, boxes = world.told
        self.world = world
        self.state = state
        self.craft = Craft()
        self.craft.start([w, h, way, px, py, 0, 0], [number for box in boxes for number in box])
        self.what = None
        self.burn = (0, 0)

    def hear(self, what, number):
        self.craft.heard([1, what, number, 0, 0, 0, 0, 0])

    def see(self):
        row = self.craft.tick(self.state)
        self.what = row[0]
        self.burn = (row[2], row[3]) if len(row) == 13 else (0, 0)

    def sleep(self):
        self.burn = (0, 0)

    def go_on(self, come):
        if not self.world.there(self.state):
            self.state = behind(self.state, come)


def some_harmless(random, world):
    return random.choice([state for state in world.states_here() if world.harmless(state)])


class NothingButThePort(unittest.TestCase):
    def check_tick(self, life, come):
        """Whatever came of the burn: no box is touched on the way, nor ever if nothing more works."""
        world = life.world
        self.assertTrue(world.harmless(life.state))
        if world.there(life.state):
            return
        moved = life.state[:2] + (life.state[2] + come[0], life.state[3] + come[1])
        first = world.first_touch(moved)
        after = behind(life.state, come)
        self.assertTrue(first is None or first > 1 or (first == 1 and world.there(after)), (world.told, life.state, come))
        self.assertTrue(world.harmless(after))

    def test_it(self):
        random = Random(8)
        arrived = 0
        for world in WORLDS:
            for k in range(10):
                life = Life(world, some_harmless(random, world))
                number = 0
                for tick in range(40):
                    if tick == 0 or random.randrange(10) == 0:
                        number += random.randrange(3)
                        life.hear(random.choice([1, 1, 1, 2]), number)
                    if random.randrange(4) == 0:
                        life.sleep()
                    else:
                        life.see()
                    for come in comings(life.burn):
                        self.check_tick(life, come)
                    life.go_on(random.choice([life.burn, random.choice(sorted(comings(life.burn)))]))
                arrived += world.there(life.state)
        self.assertGreater(arrived, 5)


class InTime(unittest.TestCase):
    def test_there_in_time(self):
        random = Random(9)
        with_misfires = 0
        for world in WORLDS:
            routes = tables(world)[0]
            sure = [state for state in world.states_here() if routes.is_sure(state, MOST_TICKS, 0)]
            for state in random.sample(sure, min(3, len(sure))):
                left = routes.most_misfires(state)
                ticks = least(lambda n: routes.is_sure(state, n, left))
                life = Life(world, state)
                life.hear(ALONGSIDE, 1)
                for tick in range(ticks):
                    life.see()
                    come = life.burn
                    if left > 0 and come != (0, 0) and random.randrange(2) == 0:
                        come = random.choice(sorted(comings(come) - {come}))
                        left -= 1
                        with_misfires += 1
                    life.go_on(come)
                self.assertTrue(world.there(life.state), (world.told, state))
        self.assertGreater(with_misfires, 10)

    def test_gone_in_time(self):
        random = Random(10)
        for world in WORLDS:
            routes = tables(world)[1]
            gone = [state for state in world.states_here()
                    if routes.is_away(state, MOST_TICKS) and not world.there(state)]
            for state in random.sample(gone, min(4, len(gone))):
                ticks = least(lambda n: routes.is_away(state, n))
                life = Life(world, state)
                life.hear(AWAY, 1)
                for tick in range(ticks):
                    self.assertTrue(world.in_field(life.state))
                    life.see()
                    self.assertEqual(life.what, 2)
                    life.go_on(life.burn)
                self.assertFalse(world.in_field(life.state), (world.told, state))


def tables(world):
    w, h, way, px, py, boxes = world.told
    chart = Chart([w, h, way, px, py, 0, 0], boxes)
    drifts = Drifts(chart)
    return SureRoutes(chart, drifts), AwayRoutes(chart, drifts)


def least(holds):
    n = 0
    while not holds(n):
        n += 1
    return n


if __name__ == "__main__":
    unittest.main()
