"""The program beside the document's words once more, over small maps and lines by chance."""

import unittest
from random import Random

from tests.by_words import (ALONGSIDE, AWAY, WordsCraft, World, ask, behind, comings, cr_heard, cr_state, cr_tick,
                            order, some_worlds)

# Two where much is possible: room round a port, and a port that is come to from below.
ROOMY = [
    World(6, 5, 0, 3, 2, [(3, 1, 4, 3)]),
    World(5, 6, 3, 2, 1, [(1, 0, 3, 1), (4, 4, 4, 4)]),
]


def lines_of(states, most):
    return [states[k:k + most] for k in range(0, len(states), most)]


def ask_each(world, what, states):
    """What cr_tick answers and cr_state tells in each state, with an order anew ahead of each."""
    told = []
    for some in lines_of(states, 66):
        calls = [world.start()]
        for k, state in enumerate(some):
            calls += [order(what, k + 1), cr_tick(*state), cr_state()]
        rows = ask(*calls)[1:]
        told += [(rows[k + 1], rows[k + 2]) for k in range(0, len(rows), 3)]
    return told


def words_each(world, what, states):
    told = []
    for some in lines_of(states, 66):
        craft = WordsCraft(world)
        for k, state in enumerate(some):
            craft.heard([1, what, k + 1, 0, 0, 0, 0, 0])
            told.append((craft.tick(state), craft.state()))
    return told


class EachState(unittest.TestCase):
    def check(self, what, worlds):
        for world in worlds:
            states = world.states_here()
            with self.subTest(world=world.told):
                self.assertEqual(ask_each(world, what, states), words_each(world, what, states))

    def test_alongside_with_room(self):
        self.check(ALONGSIDE, ROOMY)

    def test_away_with_room(self):
        self.check(AWAY, ROOMY)

    def test_alongside(self):
        self.check(ALONGSIDE, some_worlds(1, 12, 4, 4))

    def test_away(self):
        self.check(AWAY, some_worlds(2, 30))


def some_line(random, world):
    """Calls of a craft that lives: it sleeps, misfires, hears orders, is thrown elsewhere; and what the words say."""
    craft = WordsCraft(world)
    state = random.choice(world.states_here())
    calls = [world.start()]
    told = [[0]]
    number = 0
    for k in range(60):
        chance = random.randrange(20)
        if k == 0 or chance == 0:
            number += random.choice([0, 1, 1, 1, 2])
            m = [1, random.choice([1, 1, 1, 2, 2, 0, 3]), number % 256, number // 256, 0, 0, 0, 0]
            calls.append(cr_heard(m))
            told.append(craft.heard(m))
        elif chance == 1:
            m = [1, random.choice([1, 2]), random.randrange(number + 1), 0, 0, 0, 0, 0]
            calls.append(cr_heard(m))
            told.append(craft.heard(m))
        elif chance == 2:
            state = random.choice(world.states_here())
        burn = (0, 0)
        if random.randrange(8) != 0:
            calls.append(cr_tick(*state))
            row = craft.tick(state)
            told.append(row)
            burn = (row[2], row[3]) if len(row) == 13 else (0, 0)
            calls.append(cr_state())
            told.append(craft.state())
        come = burn
        if random.randrange(5) == 0:
            come = random.choice(sorted(comings(burn)))
        if not world.there(state):
            state = behind(state, come)
        if not world.in_field(state) and random.randrange(3) == 0:
            state = random.choice(world.states_here())
    return calls[:200], told[:200]


class Lines(unittest.TestCase):
    def check(self, random, worlds, count):
        for world in worlds:
            for k in range(count):
                calls, told = some_line(random, world)
                with self.subTest(world=world.told, line=k):
                    self.assertEqual(ask(*calls), told)

    def test_with_room(self):
        self.check(Random(3), ROOMY, 60)

    def test_by_chance(self):
        self.check(Random(4), some_worlds(5, 12, 4, 4), 20)


if __name__ == "__main__":
    unittest.main()
