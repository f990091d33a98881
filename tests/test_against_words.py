"""The program beside the document's words once more, over small maps and lines by chance."""

import unittest
from random import Random

from tests.by_words import (ALONGSIDE, AWAY, ROOMY, WordsCraft, WordsPeople, ask, behind, comings, cr_heard, cr_state,
                            cr_tick, order, pe_heard, pe_order, pe_start, pe_state, pe_tick, some_worlds)


def lines_of(states, most):
    return [states[k:k + most] for k in range(0, len(states), most)]


def ask_each(world, what, states):
    """What cr_tick answers and cr_state tells in each state, with an order anew ahead of each."""
    told = []
    for some in lines_of(states, 66):
        calls = [world.start()]
        for k, state in enumerate(some):
            calls += [order(what, k + 1), cr_tick(*state), cr_state()]
        rows = ask(*calls)[1:]
        told += [(rows[k + 1], rows[k + 2]) for k in range(0, len(rows), 3)]
    return told


def words_each(world, what, states):
    told = []
    for some in lines_of(states, 66):
        craft = WordsCraft(world)
        for k, state in enumerate(some):
            craft.heard([1, what, k + 1, 0, 0, 0, 0, 0])
            told.append((craft.tick(state), craft.state()))
    return told


class EachState(unittest.TestCase):
    def check(self, what, worlds):
        for world in worlds:
            states = world.states_here()
            with self.subTest(world=world.told):
                self.assertEqual(ask_each(world, what, states), words_each(world, what, states))

    def test_alongside_with_room(self):
        self.check(ALONGSIDE, ROOMY)

    def test_away_with_room(self):
        self.check(AWAY, ROOMY)

    def test_alongside(self):
        self.check(ALONGSIDE, some_worlds(1, 12, 4, 4))

    def test_away(self):
        self.check(AWAY, some_worlds(2, 30))


def some_line(random, world):
    """Calls of a craft that lives: it sleeps, misfires, hears orders, is thrown elsewhere; and what the words say."""
    craft = WordsCraft(world)
    state = random.choice(world.states_here())
    calls = [world.start()]
    told = [[0]]
    number = 0
    for k in range(60):
        chance = random.randrange(20)
        if k == 0 or chance == 0:
            number += random.choice([0, 1, 1, 1, 2])
            m = [1, random.choice([1, 1, 1, 2, 2, 0, 3]), number % 256, number // 256, 0, 0, 0, 0]
            calls.append(cr_heard(m))
            told.append(craft.heard(m))
        elif chance == 1:
            m = [1, random.choice([1, 2]), random.randrange(number + 1), 0, 0, 0, 0, 0]
            calls.append(cr_heard(m))
            told.append(craft.heard(m))
        elif chance == 2:
            state = random.choice(world.states_here())
        burn = (0, 0)
        if random.randrange(8) != 0:
            calls.append(cr_tick(*state))
            row = craft.tick(state)
            told.append(row)
            burn = (row[2], row[3]) if len(row) == 13 else (0, 0)
            calls.append(cr_state())
            told.append(craft.state())
        come = burn
        if random.randrange(5) == 0:
            come = random.choice(sorted(comings(burn)))
        if not world.there(state):
            state = behind(state, come)
        if not world.in_field(state) and random.randrange(3) == 0:
            state = random.choice(world.states_here())
    return calls[:200], told[:200]


class Lines(unittest.TestCase):
    def check(self, random, worlds, count):
        for world in worlds:
            for k in range(count):
                calls, told = some_line(random, world)
                with self.subTest(world=world.told, line=k):
                    self.assertEqual(ask(*calls), told)

    def test_with_room(self):
        self.check(Random(3), ROOMY, 60)

    def test_by_chance(self):
        self.check(Random(4), some_worlds(5, 12, 4, 4), 20)


def some_message(random, orders, ticks):
    """Mostly an answer or a report with numbers near the last ones; now and then with some byte or length amiss."""
    number = max(0, orders + random.randint(-2, 1))
    report_number = max(0, ticks + random.randint(-3, 3))
    m = random.choice([
        [2, random.randint(1, 2), number % 256, number // 256, 0, 0, 0, 0],
        [3, random.randrange(6), random.randrange(32), random.randrange(32), random.randrange(49),
         report_number % 256, report_number // 256 % 256, report_number // 65536]])
    chance = random.randrange(8)
    if chance == 0:
        m[random.randrange(8)] = random.choice([0, 1, 2, 3, 4, 5, 6, 31, 32, 48, 49, 255])
    elif chance == 1:
        m = (m + [0, 0, 0, 0])[:random.randrange(13)]
    return m


def some_people_line(random):
    """Calls of a people's end alone, and what the words say."""
    calls = []
    told = []
    people = None
    ticks = random.choice([0, 200, 250, 65530, 16777200])
    for k in range(200):
        chance = random.randrange(40)
        if k == 0 or chance == 0:
            people = WordsPeople()
            calls.append(pe_start())
            told.append([0])
        elif chance < 6:
            what = random.choice([1, 1, 2, 2, 2, 0, 3, 4294967295])
            calls.append(pe_order(what))
            told.append(people.order(what))
        elif chance < 18:
            m = some_message(random, len(people.orders), ticks)
            ticks = min(ticks + random.randrange(2), 16777200)
            calls.append(pe_heard(m))
            told.append(people.heard(m))
        elif chance < 30:
            calls.append(pe_tick())
            told.append(people.tick())
        else:
            calls.append(pe_state())
            told.append(people.state())
    return calls, told


def some_order_of(random, one, other):
    """Both lists in one, each in its own order; and which of them each is from."""
    turns = [0] * len(one) + [1] * len(other)
    random.shuffle(turns)
    walks = [iter(one), iter(other)]
    return [next(walks[turn]) for turn in turns], turns


class PeoplesLines(unittest.TestCase):
    def test_by_chance(self):
        random = Random(11)
        seen = set()
        for k in range(300):
            calls, told = some_people_line(random)
            with self.subTest(line=k):
                self.assertEqual(ask(*calls), told)
            seen |= {(call[0], row[0] if call[0] != 5 else min(row[0], 1), len(row)) for call, row in zip(calls, told)}
        # Each call, refused and not, with and without something sent.
        self.assertEqual(seen, {(4, 0, 1), (5, 1, 10), (5, -22, 1), (6, 0, 1), (6, -71, 1), (7, 0, 1), (7, 0, 10),
                                (8, 0, 9)})


class BothInOneLine(unittest.TestCase):
    def test_neither_changes_the_other(self):
        random = Random(12)
        for k in range(60):
            one, told_one = some_line(random, ROOMY[k % 2])
            other, told_other = some_people_line(random)
            mixed, turns = some_order_of(random, list(zip(one[:100], told_one)), list(zip(other[:100], told_other)))
            with self.subTest(line=k):
                self.assertEqual(ask(*[call for call, row in mixed]), [row for call, row in mixed])
                self.assertEqual(len(set(turns)), 2)


if __name__ == "__main__":
    unittest.main()
