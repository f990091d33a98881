"""A craft and a people's end in one line, over a link that loses, doubles and delays; and what holds, a to f."""

import unittest
from random import Random

from softport.craft import Craft
from softport.people import PeoplesEnd
from tests.by_words import (ALONGSIDE, AWAY, CORNER, ROOMY, World, answer, ask, behind, comings, cr_heard, cr_state,
                            cr_tick, pe_heard, pe_order, pe_start, pe_state, pe_tick, report, sent_order, some_worlds)

ROW = World(6, 1, 0, 5, 0, [(5, 0, 5, 0)])


def heard_by_craft(told):
    """What was told as sent, handed to the craft."""
    return cr_heard(told[1:])


def heard_by_people(told):
    return pe_heard(told[1:])


class WhatOneSendsTheOtherHears(unittest.TestCase):
    def check(self, *pairs):
        """Calls behind both starts, each with what's to be answered."""
        rows = ask(ROW.start(), pe_start(), *[call for call, row in pairs])
        self.assertEqual(rows, [[0], [0]] + [row for call, row in pairs])

    def test_nothing_goes_wrong(self):
        self.check(
            (pe_order(ALONGSIDE), [1] + sent_order(ALONGSIDE, 1)),
            (heard_by_craft(sent_order(ALONGSIDE, 1)), [0] + answer(ALONGSIDE, 1)),
            (heard_by_people(answer(ALONGSIDE, 1)), [0]),
            (pe_state(), [0, 1, 1, 1, 0, 0, 0, 0, 0]),
            (cr_tick(4, 0, 0, 0), [1, 0, 1, 0] + report(1, 4, 0, 0, 0, 1)),
            (heard_by_people(report(1, 4, 0, 0, 0, 1)), [0]),
            (pe_state(), [0, 1, 1, 1, 1, 1, 4, 0, 24]),
            (cr_tick(5, 0, 1, 0), [5] + report(5, 5, 0, 1, 0, 2)),
            (heard_by_people(report(5, 5, 0, 1, 0, 2)), [0]),
            (pe_state(), [0, 1, 1, 1, 2, 5, 5, 0, 31]),
            (cr_state(), [0, 1, 0, 1, 2]))

    def test_lost(self):
        unheard = [(pe_tick(), [0])] * 4 + [(pe_tick(), [0] + sent_order(AWAY, 1))]
        self.check(
            (pe_order(AWAY), [1] + sent_order(AWAY, 1)),
            # The order is lost, then the answer to it.
            *unheard,
            (heard_by_craft(sent_order(AWAY, 1)), [0] + answer(AWAY, 1)),
            *unheard,
            (pe_state(), [0, 1, 2, 0, 0, 0, 0, 0, 0]),
            (heard_by_craft(sent_order(AWAY, 1)), [0] + answer(AWAY, 1)),
            (heard_by_people(answer(AWAY, 1)), [0]),
            (pe_state(), [0, 1, 2, 1, 0, 0, 0, 0, 0]),
            *[(pe_tick(), [0])] * 5,
            (cr_state(), [0, 2, 0, 1, 0]))

    def test_doubled(self):
        self.check(
            (pe_order(ALONGSIDE), [1] + sent_order(ALONGSIDE, 1)),
            (heard_by_craft(sent_order(ALONGSIDE, 1)), [0] + answer(ALONGSIDE, 1)),
            (cr_tick(1, 0, -1, 0), [1, 0, 1, 0] + report(1, 1, 0, -1, 0, 1)),
            (cr_state(), [0, 1, 1, 1, 1]),
            (heard_by_craft(sent_order(ALONGSIDE, 1)), [0] + answer(ALONGSIDE, 1)),
            (cr_state(), [0, 1, 1, 1, 1]),
            (heard_by_people(answer(ALONGSIDE, 1)), [0]),
            (heard_by_people(answer(ALONGSIDE, 1)), [0]),
            (heard_by_people(report(1, 1, 0, -1, 0, 1)), [0]),
            (heard_by_people(report(1, 1, 0, -1, 0, 1)), [0]),
            (pe_state(), [0, 1, 1, 1, 1, 1, 1, 0, 17]))

    def test_late(self):
        self.check(
            (pe_order(ALONGSIDE), [1] + sent_order(ALONGSIDE, 1)),
            (pe_order(AWAY), [2] + sent_order(AWAY, 2)),
            (heard_by_craft(sent_order(ALONGSIDE, 1)), [0] + answer(ALONGSIDE, 1)),
            (cr_tick(4, 0, 0, 0), [1, 0, 1, 0] + report(1, 4, 0, 0, 0, 1)),
            (heard_by_craft(sent_order(AWAY, 2)), [0] + answer(AWAY, 2)),
            (cr_tick(4, 0, 0, 0), [2, 0, 0, -1] + report(2, 4, 0, 0, 0, 2)),
            (heard_by_people(report(2, 4, 0, 0, 0, 2)), [0]),
            # The older order once more, the older answer, the older report.
            (heard_by_craft(sent_order(ALONGSIDE, 1)), [0]),
            (heard_by_people(answer(ALONGSIDE, 1)), [0]),
            (heard_by_people(report(1, 4, 0, 0, 0, 1)), [0]),
            (pe_state(), [0, 2, 2, 0, 2, 2, 4, 0, 24]),
            (cr_state(), [0, 2, 0, 2, 2]),
            (heard_by_people(answer(AWAY, 2)), [0]),
            (pe_state(), [0, 2, 2, 1, 2, 2, 4, 0, 24]))

    def test_what_is_sent_the_wrong_way(self):
        self.check(
            (pe_order(ALONGSIDE), [1] + sent_order(ALONGSIDE, 1)),
            (heard_by_people(sent_order(ALONGSIDE, 1)), [-71]),
            (heard_by_craft(answer(ALONGSIDE, 1)), [-71]),
            (heard_by_craft(report(1, 4, 0, 0, 0, 1)), [-71]),
            (cr_state(), [0, 0, 0, 0, 0]),
            (pe_state(), [0, 1, 1, 0, 0, 0, 0, 0, 0]))

    def test_ticks_of_one_are_not_ticks_of_the_other(self):
        self.check(
            (pe_order(AWAY), [1] + sent_order(AWAY, 1)),
            *[(cr_tick(0, 0, 0, 0), [0] + report(0, 0, 0, 0, 0, k + 1)) for k in range(7)],
            *[(pe_tick(), [0])] * 4,
            (cr_state(), [0, 0, 0, 0, 7]),
            (pe_tick(), [0] + sent_order(AWAY, 1)))

    def test_a_start_of_one_is_not_a_start_of_the_other(self):
        self.check(
            (pe_order(AWAY), [1] + sent_order(AWAY, 1)),
            (heard_by_craft(sent_order(AWAY, 1)), [0] + answer(AWAY, 1)),
            (cr_tick(0, 0, 0, 0), [2, 0, -1, 0] + report(2, 0, 0, 0, 0, 1)),
            (heard_by_people(report(2, 0, 0, 0, 0, 1)), [0]),
            (ROW.start(), [0]),
            (cr_state(), [0, 0, 0, 0, 0]),
            (pe_state(), [0, 1, 2, 0, 1, 2, 0, 0, 24]),
            (heard_by_craft(sent_order(AWAY, 1)), [0] + answer(AWAY, 1)),
            (pe_start(), [0]),
            (cr_state(), [0, 2, 0, 1, 0]),
            (pe_state(), [0, 0, 0, 0, 0, 0, 0, 0, 0]))


# In how many of a hundred ticks, or messages, what goes wrong.
QUIET = {"sleeps": 0, "misfires": 0, "orders": 2, "lost": 20, "doubled": 30, "late": 50}
MISFIRING = {"sleeps": 0, "misfires": 60, "orders": 2, "lost": 20, "doubled": 30, "late": 50}
ALL_AMISS = {"sleeps": 25, "misfires": 40, "orders": 15, "lost": 40, "doubled": 40, "late": 70}


class Run:
    """A line lived through: what is asked and answered, what is under way, and the state in which the craft really is.

    Both ends are asked themselves, one call at a time, so that what they answer can be lived with.
    """

    def __init__(self, random, world, chances):
        self.random = random
        self.world = world
        self.chances = chances
        self.favoured = random.choice([ALONGSIDE, ALONGSIDE, AWAY])
        self.first_tick = random.randint(1, 3)
        self.last_tick = random.randint(5, 70)
        # Mostly slow ones, as most others are out of the field before anything can be done.
        fastest = random.choice([0, 1, 1, 1, 3])
        self.state = random.choice([state for state in world.states_here()
                                    if world.harmless(state) and max(abs(state[2]), abs(state[3])) <= fastest])
        self.craft = Craft()
        self.people = PeoplesEnd()
        self.calls = []
        self.rows = []
        self.tick = 0
        self.to_craft = []
        self.to_people = []
        self.orders = []
        self.heard_orders = []
        self.heard_numbers = []
        self.seen = {}
        self.burn = (0, 0)
        self.what = None
        w, h, way, px, py, boxes = world.told
        self.note(world.start(), self.craft.start([w, h, way, px, py, 0, 0], [k for box in boxes for k in box]))
        self.note(pe_start(), self.people.start())

    def note(self, call, row):
        self.calls.append(call)
        self.rows.append(row)
        return row

    def happens(self, name):
        return self.random.randrange(100) < self.chances[name]

    def send(self, under_way, told):
        """Puts a message on its way, if one is told of: once, twice or not at all, and each at its own moment."""
        for time in range(2 if self.happens("doubled") else 1):
            if told and not self.happens("lost"):
                due = self.tick + (self.random.randint(1, 20) if self.happens("late") else 0)
                under_way.append((due, told[1:]))

    def arriving(self, under_way):
        due = [one for one in under_way if one[0] <= self.tick]
        under_way[:] = [one for one in under_way if one[0] > self.tick]
        self.random.shuffle(due)
        return [m for moment, m in due]

    def order(self):
        what = self.random.choice([ALONGSIDE, AWAY, self.favoured, 0]) if self.orders else self.favoured
        row = self.note(pe_order(what), self.people.order(what))
        if row[0] > 0:
            self.orders.append(what)
            self.send(self.to_craft, row[1:])

    def people_tick(self):
        row = self.note(pe_tick(), self.people.tick())
        self.send(self.to_craft, row[1:])

    def deliver_to_craft(self):
        for m in self.arriving(self.to_craft):
            row = self.note(cr_heard(m), self.craft.heard(m))
            self.heard_orders.append((m[2] + 256 * m[3], m[1]))
            self.send(self.to_people, row[1:])

    def deliver_to_people(self):
        for m in self.arriving(self.to_people):
            self.note(pe_heard(m), self.people.heard(m))
            if m[0] == 3:
                self.heard_numbers.append(m[5] + 256 * m[6] + 65536 * m[7])

    def craft_tick(self):
        """What's answered is None if it sleeps."""
        self.burn = (0, 0)
        self.what = None
        if not self.happens("sleeps"):
            row = self.note(cr_tick(*self.state), self.craft.tick(self.state))
            self.what = row[0]
            self.burn = (row[2], row[3]) if len(row) == 13 else (0, 0)
            self.seen[len(self.seen) + 1] = self.state
            self.send(self.to_people, row[-9:])

    def live(self):
        """All of a tick up to the burn."""
        self.tick += 1
        if self.tick == self.first_tick or self.happens("orders"):
            self.order()
        self.people_tick()
        self.deliver_to_craft()
        self.craft_tick()
        self.deliver_to_people()

    def some_of_the_burn(self):
        if self.happens("misfires"):
            return self.random.choice(sorted(comings(self.burn)))
        return self.burn

    def go_on(self, come):
        if not self.world.there(self.state):
            self.state = behind(self.state, come)

    def is_over(self):
        # Room is left for what a tick may bring, and for the last calls.
        return self.tick == self.last_tick or len(self.calls) + len(self.to_craft) + len(self.to_people) > 170

    def let_all_come_through(self):
        """Ticks of the people's end, until it sends its order again and hears the answer; none of that is lost."""
        for k in range(5):
            row = self.note(pe_tick(), self.people.tick())
            if len(row) > 1:
                row = self.note(cr_heard(row[2:]), self.craft.heard(row[2:]))
                self.note(pe_heard(row[2:]), self.people.heard(row[2:]))
                return


class Deadline:
    """By when it's there, or gone: with how many misfires at most, and behind no newer order than this."""

    def __init__(self, what, tick, misfires, order):
        self.what = what
        self.tick = tick
        self.misfires = misfires
        self.misfired = False
        self.order = order

    def is_met(self, run):
        return run.world.there(run.state) if self.what == 1 else not run.world.in_field(run.state)

    def is_off(self, run):
        return run.what is None or run.craft.last_order != self.order


def deadline_at(run):
    misfires, order = run.craft.told_state()[2:4]
    if run.what == 1:
        return Deadline(1, run.tick + run.world.sure_within(run.state, misfires), misfires, order)
    if run.what == 2:
        return Deadline(2, run.tick + run.world.away_within(run.state), 0, order)
    return None


class WhatHolds(unittest.TestCase):
    def setUp(self):
        self.counts = {}

    def count(self, name):
        self.counts[name] = self.counts.get(name, 0) + 1

    def check(self, seed, worlds, chances, runs, in_time=True):
        random = Random(seed)
        for world in worlds:
            for k in range(runs):
                with self.subTest(world=world.told, run=k):
                    self.live_through(Run(random, world, chances), in_time)

    def check_counts(self, **least):
        for name, number in least.items():
            self.assertGreaterEqual(self.counts.get(name, 0), number, (name, self.counts))

    def live_through(self, run, in_time):
        self.deadline = None
        self.known = 0
        while not run.is_over():
            run.live()
            come = run.some_of_the_burn()
            self.check_nothing_but_the_port(run)
            self.check_what_it_does(run)
            self.check_what_is_known(run)
            if in_time:
                self.check_in_time(run, come)
            run.go_on(come)
        self.check_it_can_come_to_an_answer(run)
        self.assertLessEqual(len(run.calls), 200)
        self.assertEqual(ask(*run.calls), run.rows)

    def check_nothing_but_the_port(self, run):
        """a, whatever comes of the burn: no box is touched in this tick, nor ever if nothing more works."""
        world, state = run.world, run.state
        self.assertTrue(world.harmless(state))
        if world.there(state):
            self.count("there")
            return
        for come in comings(run.burn):
            first = world.first_touch(state[:2] + (state[2] + come[0], state[3] + come[1]))
            after = behind(state, come)
            self.assertTrue(first is None or first > 1 or (first == 1 and world.there(after)), (state, come))
            self.assertTrue(world.harmless(after), (state, come))

    def check_in_time(self, run, come):
        """b and c, from each tick at which it counts or goes away, as long as no more goes wrong."""
        if self.deadline is not None and self.deadline.is_met(run):
            self.assertLessEqual(run.tick, self.deadline.tick)
            self.count("in_time_there" if self.deadline.what == 1 else "in_time_gone")
            if self.deadline.misfired:
                self.count("in_time_with_misfires")
            self.deadline = None
        if self.deadline is not None:
            self.assertLess(run.tick, self.deadline.tick)
            if self.deadline.is_off(run):
                self.deadline = None
        if self.deadline is None:
            self.deadline = deadline_at(run)
        if self.deadline is not None and come != run.burn:
            self.deadline.misfires -= 1
            self.deadline.misfired = True
            if self.deadline.misfires < 0:
                self.deadline = None

    def check_what_it_does(self, run):
        """d."""
        mode, misfires, number, ticks = run.craft.told_state()[1:]
        last, what, answered = run.people.told_state()[1:4]
        self.assertEqual((number, mode), max(run.heard_orders, default=(0, 0)))
        if mode == 0:
            self.assertEqual(run.burn, (0, 0))
        self.assertIn(run.what, [mode, 3, 4, 5, None] if mode else [0, 4, 5, None])
        if answered:
            self.assertIn((last, what), run.heard_orders)
            self.count("answered")
        self.count_orders(run, number)

    def count_orders(self, run, number):
        numbers = [order[0] for order in run.heard_orders]
        if numbers.count(number) > 1:
            self.count("orders_again")
        if numbers and numbers[-1] < number:
            self.count("orders_late")

    def check_what_is_known(self, run):
        """e."""
        number, what, x, y, speed = run.people.told_state()[4:]
        self.assertEqual(number, max(run.heard_numbers, default=0))
        self.assertGreaterEqual(number, self.known)
        self.known = number
        if number == 0:
            self.assertEqual((what, x, y, speed), (0, 0, 0, 0))
        elif what == 4:
            self.assertFalse(run.world.here(run.seen[number]))
        else:
            self.assertEqual((x, y, speed // 7 - 3, speed % 7 - 3), run.seen[number])
        if what == 5:
            self.assertTrue(run.world.there(run.state))
            self.count("known_there")
        if run.heard_numbers and run.heard_numbers[-1] < number:
            self.count("reports_overtaken")

    def check_it_can_come_to_an_answer(self, run):
        """f."""
        if run.orders:
            if not run.people.order_answered:
                self.count("unanswered")
            run.let_all_come_through()
            self.assertEqual(run.people.told_state()[1:4], [len(run.orders), run.orders[-1], 1])
            self.assertEqual(run.craft.told_state()[3], len(run.orders))

    def test_but_for_the_link(self):
        self.check(13, ROOMY + [CORNER], QUIET, 40)
        self.check_counts(in_time_there=10, in_time_gone=10, known_there=10)

    def test_with_misfires(self):
        self.check(14, ROOMY + [CORNER], MISFIRING, 40)
        self.check_counts(in_time_there=10, in_time_gone=10, known_there=10, in_time_with_misfires=5)

    def test_with_all_amiss(self):
        self.check(15, ROOMY + [CORNER], ALL_AMISS, 40)
        self.check_counts(there=50, answered=50, orders_again=50, orders_late=50, reports_overtaken=50, unanswered=20)

    def test_maps_by_chance(self):
        self.check(16, some_worlds(17, 10, 4, 4), MISFIRING, 10)
        self.check(18, some_worlds(19, 15, 14, 14, 5), ALL_AMISS, 6, in_time=False)


if __name__ == "__main__":
    unittest.main()
