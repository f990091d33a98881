"""Point 2, cr_tick."""

import unittest

from softport.messages import report_of, report_without_state
from tests.by_words import (ALONGSIDE, AWAY, CORNER, HEADINGS, World, ask, behind, cr_state, cr_tick, order, report,
                            some_worlds)

LOWEST = -2147483648
HIGHEST = 2147483647

# A row of six places; the port is the last one.
ROW = World(6, 1, 0, 5, 0, [(5, 0, 5, 0)])
# A port that nobody comes to: the place before it is walled in.
WALLED = World(6, 5, 0, 3, 2, [(3, 2, 3, 2), (1, 1, 3, 1), (1, 3, 3, 3), (1, 2, 1, 2)])

# From where it comes alongside slowly: with 6 misfires within 250 ticks from one place, within 251 from the next.
SLOW = World(32, 32, 0, 10, 18, [
    (10, 18, 11, 24), (13, 21, 20, 22), (12, 0, 23, 0), (26, 16, 31, 24), (5, 8, 8, 25), (0, 2, 20, 2)])


def tell(world, what, *states):
    """For each state, ticked one behind another: what cr_tick answers, and how many misfires are counted with."""
    calls = [world.start()] + ([order(what, 1)] if what else [])
    first = len(calls)
    for state in states:
        calls += [cr_tick(*state), cr_state()]
    rows = ask(*calls)[first:]
    return [(rows[k], rows[k + 1][2]) for k in range(0, len(rows), 2)]


def whats(world, what, *states):
    return [row[0] for row, counts in tell(world, what, *states)]


def counted(world, *states):
    return [counts for row, counts in tell(world, ALONGSIDE, *states)]


def burned(row):
    return (row[2], row[3]) if len(row) == 13 else (0, 0)


class There(unittest.TestCase):
    def test_in_each_mode(self):
        for what in (0, ALONGSIDE, AWAY):
            self.assertEqual(tell(ROW, what, (5, 0, 1, 0)), [([5] + report(5, 5, 0, 1, 0, 1), 0)])

    def test_by_each_way(self):
        for way, d in enumerate(HEADINGS):
            world = World(5, 5, way, 2, 2, [(2, 2, 2, 2)])
            for what in (0, ALONGSIDE, AWAY):
                self.assertEqual(tell(world, what, (2, 2) + d), [([5] + report(5, 2, 2, d[0], d[1], 1), 0)])
            others = [(2, 2) + other for other in HEADINGS if other != d]
            self.assertEqual(whats(world, ALONGSIDE, *others), [3, 3, 3])

    def test_at_the_port_with_another_speed(self):
        states = [(5, 0, 0, 0), (5, 0, 2, 0), (5, 0, -1, 0), (5, 0, 1, 1), (5, 0, 1, -1), (5, 0, 0, 1)]
        self.assertEqual(whats(ROW, 0, *states), [0] * 6)
        self.assertEqual(whats(ROW, ALONGSIDE, *states), [3] * 6)
        self.assertEqual(whats(ROW, AWAY, *states), [3] * 6)

    def test_at_another_place_with_the_port_s_speed(self):
        self.assertEqual(whats(CORNER, 0, (6, 4, 1, 0), (5, 3, 1, 0), (7, 3, 1, 0)), [0, 0, 0])

    def test_it_expects_nothing_then(self):
        self.assertEqual(counted(ROW, (4, 0, 0, 0), (5, 0, 1, 0), (4, 0, 0, 0)), [7, 0, 7])


class NotHere(unittest.TestCase):
    STATES = [
        (6, 0, 0, 0), (-1, 0, 0, 0), (0, 1, 0, 0), (0, -1, 0, 0),
        (0, 0, 4, 0), (0, 0, -4, 0), (0, 0, 0, 4), (0, 0, 0, -4),
        (5, 0, 1, 4), (5, 0, 4, 0),
        (LOWEST, 0, 0, 0), (HIGHEST, 0, 0, 0), (0, LOWEST, 0, 0), (0, HIGHEST, 0, 0),
        (0, 0, LOWEST, 0), (0, 0, HIGHEST, 0), (0, 0, 0, LOWEST), (0, 0, 0, HIGHEST),
        (LOWEST, LOWEST, LOWEST, LOWEST), (HIGHEST, HIGHEST, HIGHEST, HIGHEST),
    ]

    def test_in_each_mode(self):
        for what in (0, ALONGSIDE, AWAY):
            self.assertEqual(
                tell(ROW, what, *self.STATES),
                [([4, 1, 3, 4, 0, 0, 0, k + 1, 0, 0], 0) for k in range(len(self.STATES))])

    def test_the_ends_of_what_is_here(self):
        wide = World(32, 32, 0, 20, 20, [(20, 20, 20, 20)])
        states = [(0, 0, -3, -3), (31, 31, 3, 3), (0, 31, 3, -3), (31, 0, -3, 3)]
        self.assertEqual([row for row, counts in tell(wide, 0, *states)],
                         [[0] + report(0, *state, k + 1) for k, state in enumerate(states)])

    def test_it_expects_nothing_then(self):
        # From this state it's sure with none but 1; in the one that was expected, with 7.
        states = [(1, 0, -1, 0), (1, 0, 4, 0), (1, 0, 0, 0)]
        self.assertEqual(counted(ROW, *states), [1, 0, 7])


class NoOrderYet(unittest.TestCase):
    def test_it_burns_nothing(self):
        for state in [(4, 0, 0, 0), (4, 0, 2, 0), (4, 0, 1, 0), (0, 0, -3, 3), (5, 0, 0, 0)]:
            self.assertEqual(tell(ROW, 0, state), [([0] + report(0, *state, 1), 0)])


class Drifting(unittest.TestCase):
    """A state with a speed that isn't harmless has no free burn, so that it isn't away; one that is goes away."""

    def check(self, world, touching, missing):
        for state in touching:
            with self.subTest(state=state):
                self.assertEqual(tell(world, AWAY, state), [([3] + report(3, *state, 1), 0)])
        for state in missing:
            with self.subTest(state=state):
                self.assertEqual(whats(world, AWAY, state), [2])

    def test_at_whole_moments(self):
        self.check(
            World(8, 8, 0, 3, 3, [(3, 3, 4, 4)]),
            [(0, 3, 3, 0), (0, 0, 1, 1), (3, 0, 0, 1), (7, 4, -1, 0), (4, 7, 0, -3), (1, 7, 1, -1)],
            [(0, 2, 3, 0), (0, 5, 3, 0), (2, 0, 0, 1), (5, 0, 0, 1), (7, 4, 1, 0), (0, 1, 2, 3), (0, 3, -1, 0)])

    def test_between_two_whole_moments(self):
        self.check(
            World(8, 8, 0, 3, 3, [(3, 3, 4, 4)]),
            [(2, 2, 3, 2), (2, 2, 3, 3), (5, 2, -2, 3), (2, 5, 3, -3), (1, 4, 3, -1)],
            [(2, 1, 3, 1), (2, 2, 1, 3), (5, 2, -1, 3)])

    def test_across_a_thin_box(self):
        self.check(
            World(7, 7, 0, 3, 3, [(3, 3, 3, 3), (5, 0, 5, 5)]),
            [(4, 1, 2, 1), (4, 0, 3, 0), (6, 1, -3, 2), (4, 4, 3, 3), (4, 3, 3, 2)],
            [(4, 5, 1, 1), (4, 4, 1, 2), (6, 6, -3, -1)])

    def test_at_a_corner_alone(self):
        self.check(
            World(8, 8, 0, 3, 3, [(3, 3, 4, 4)]),
            [(2, 3, 1, 1), (2, 3, 2, 2), (2, 3, 3, 3), (3, 2, 2, 2), (5, 4, -3, -3),
             (2, 4, 3, -3), (4, 2, -2, 2), (3, 5, 2, -2), (5, 3, -3, 3), (2, 2, 1, 2), (1, 1, 2, 3)],
            [(2, 4, 1, 1), (2, 4, 3, 3), (4, 5, 1, 1), (5, 4, 3, 3)])

    def test_along_the_rim(self):
        self.check(
            World(8, 8, 0, 3, 3, [(3, 3, 4, 3)]),
            [(3, 2, 0, 3), (4, 4, 0, -3), (4, 0, 0, 2), (0, 3, 2, 0), (7, 3, -3, 0)],
            [(2, 2, 0, 3), (5, 4, 0, -3), (0, 4, 3, 0), (0, 2, 3, 0)])

    def test_far_off(self):
        self.check(
            World(32, 32, 0, 31, 20, [(31, 20, 31, 20), (31, 31, 31, 31)]),
            [(0, 0, 1, 1), (0, 0, 3, 3), (1, 0, 3, 2), (1, 1, 2, 2)],
            [(0, 1, 1, 1), (0, 0, 3, 2), (1, 0, 2, 1), (0, 19, 1, 0)])

    def test_a_drift_to_the_port(self):
        # Harmless with the port's speed, and with none that is faster or askew.
        self.assertEqual(whats(ROW, AWAY, (0, 0, 1, 0), (4, 0, 1, 0), (4, 0, 2, 0), (3, 0, 2, 0), (0, 0, 3, 0)),
                         [2, 2, 3, 3, 3])
        self.assertEqual(whats(ROW, ALONGSIDE, (0, 0, 1, 0), (4, 0, 1, 0), (4, 0, 2, 0), (3, 0, 2, 0), (0, 0, 3, 0)),
                         [1, 1, 3, 3, 3])

    def test_a_drift_to_the_port_through_another_box(self):
        world = World(8, 3, 0, 7, 1, [(7, 1, 7, 1), (3, 1, 3, 1)])
        self.assertEqual(whats(world, ALONGSIDE, (0, 1, 1, 0), (2, 1, 1, 0), (4, 1, 1, 0)), [3, 3, 1])

    def test_each_state_of_some_maps(self):
        for world in some_worlds(6, 25, 6, 6):
            # With the speed of the port's way it may drift to the port: whether it's away then is asked elsewhere.
            states = [state for state in world.states_here() if state[2:] not in ((0, 0), world.d)]
            given = []
            for k in range(0, len(states), 90):
                given += whats(world, AWAY, *states[k:k + 90])
            self.assertEqual(given, [2 if world.first_touch(state) is None else 3 for state in states], world.told)


class Away(unittest.TestCase):
    def check(self, world, state, burn):
        told = ([2] if burn == (0, 0) else [2, 0, burn[0], burn[1]]) + report(2, *state, 1)
        self.assertEqual(tell(world, AWAY, state), [(told, 0)])

    def test_the_least_number_of_ticks(self):
        self.check(ROW, (0, 0, 0, 0), (-1, 0))
        self.check(World(7, 1, 0, 6, 0, [(6, 0, 6, 0)]), (1, 0, -1, 0), (-1, 0))
        # Out by drifting alone as soon as by any burn.
        self.check(World(7, 1, 0, 6, 0, [(6, 0, 6, 0)]), (0, 0, -1, 0), (0, 0))

    def test_which_of_several(self):
        tower = World(5, 9, 0, 4, 4, [(4, 4, 4, 4)])
        self.check(tower, (0, 0, 0, 0), (-1, 0))
        self.check(tower, (1, 0, 0, 0), (0, -1))
        self.check(tower, (2, 8, 0, 0), (0, 1))
        self.check(tower, (4, 7, 0, 0), (1, 0))
        self.check(ROW, (4, 0, 0, 0), (0, -1))
        self.check(ROW, (4, 0, 1, 0), (0, -1))

    def test_both_parts_where_one_is_not_enough(self):
        # Before the port: out in 2 ticks by (1, -1), in 3 by any other.
        self.check(CORNER, (5, 3, 0, 0), (1, -1))
        self.assertEqual(CORNER.away_within((5, 3, 0, 0)), 2)

    def test_which_of_several_with_both_parts(self):
        for world, state, burn in [
                (World(17, 11, 0, 2, 5, [(2, 4, 2, 5)]), (7, 1, -1, 2), (-1, -1)),
                (World(19, 15, 0, 4, 3, [(4, 3, 4, 4), (5, 2, 5, 3), (5, 0, 7, 0), (1, 5, 2, 6)]), (7, 3, 0, 1), (-1, 1)),
                (World(12, 6, 2, 10, 4, [(9, 4, 10, 4), (8, 0, 8, 0)]), (11, 2, -2, 0), (-1, -1)),
                (World(17, 27, 2, 5, 8, [(12, 6, 12, 7), (4, 8, 5, 8), (2, 4, 3, 5)]), (11, 3, -1, 2), (1, -1))]:
            self.check(world, state, burn)

    def test_only_a_free_one(self):
        # By (-1, 0) it would be out as soon, but that is not harmless itself.
        self.check(World(4, 5, 1, 0, 1, [(0, 1, 0, 1)]), (1, 2, -1, -2), (0, -1))
        self.check(World(6, 3, 2, 0, 2, [(0, 2, 0, 2), (0, 0, 0, 0)]), (1, 2, -1, 0), (0, 1))

    def test_nowhere_to_go(self):
        self.assertEqual(tell(WALLED, AWAY, (2, 2, 0, 0)), [([3] + report(3, 2, 2, 0, 0, 1), 0)])

    def test_it_never_counts_with_misfires(self):
        states = [(0, 0, 0, 0), (1, 0, 0, 0), (5, 0, 0, 0), (4, 0, 2, 0), (4, 0, 1, 0)]
        self.assertEqual([counts for row, counts in tell(ROW, AWAY, *states)], [0] * 5)


class Alongside(unittest.TestCase):
    def test_a_burn_is_told_ahead_of_the_report(self):
        self.assertEqual(tell(ROW, ALONGSIDE, (4, 0, 0, 0)), [([1, 0, 1, 0, 1, 3, 1, 4, 0, 24, 1, 0, 0], 7)])

    def test_no_burn_is_not_told(self):
        self.assertEqual(tell(ROW, ALONGSIDE, (2, 0, 1, 0)), [([1, 1, 3, 1, 2, 0, 31, 1, 0, 0], 7)])

    def test_from_afar(self):
        states = [(0, 0, 0, 0), (1, 0, 1, 0), (2, 0, 1, 0), (3, 0, 1, 0), (4, 0, 1, 0), (5, 0, 1, 0)]
        rows = tell(ROW, ALONGSIDE, *states)
        self.assertEqual(rows[0], ([1, 0, 1, 0] + report(1, 0, 0, 0, 0, 1), 7))
        for k in range(1, 5):
            self.assertEqual(rows[k], ([1] + report(1, k, 0, 1, 0, k + 1), 7))
        self.assertEqual(rows[5], ([5] + report(5, 5, 0, 1, 0, 6), 0))

    def test_not_sure_at_all(self):
        # Out of the field before anything can be done; about to touch; no way to the port.
        for world, state in [(ROW, (0, 0, -2, 0)), (ROW, (4, 0, 3, 0)), (WALLED, (0, 0, 0, 0)), (WALLED, (5, 4, 0, 0))]:
            self.assertEqual(tell(world, ALONGSIDE, state), [([3] + report(3, *state, 1), 0)])

    def test_only_a_free_one(self):
        # It would be there as soon by (1, -1) and by (-1, 1), but half of these would touch.
        for world, state in [
                (World(4, 5, 1, 0, 1, [(0, 1, 0, 1)]), (3, 3, -3, -1)),
                (World(6, 5, 3, 2, 0, [(2, 0, 2, 0)]), (4, 3, -1, -3))]:
            self.assertEqual(tell(world, ALONGSIDE, state), [([1, 0, 1, 1] + report(1, *state, 1), 0)])

    def test_within_walls(self):
        self.assertEqual(tell(WALLED, ALONGSIDE, (2, 2, 0, 0)), [([1, 0, 1, 0] + report(1, 2, 2, 0, 0, 1), 7)])

    def test_beside_the_port(self):
        self.assertEqual(whats(CORNER, ALONGSIDE, (5, 3, 2, 0), (5, 3, 1, 1), (5, 3, 3, 0), (5, 2, 1, 1), (6, 2, 0, 1)),
                         [3, 3, 3, 3, 3])
        self.assertEqual(whats(CORNER, ALONGSIDE, (5, 3, 1, 0), (5, 3, 0, 0)), [1, 1])

    def test_by_each_way(self):
        for way, d in enumerate(HEADINGS):
            world = World(9, 9, way, 4, 4, [(4, 4, 4, 4)])
            state = (4 - d[0], 4 - d[1], 0, 0)
            self.assertEqual(tell(world, ALONGSIDE, state), [([1, 0, d[0], d[1]] + report(1, *state, 1), 7)])

    def test_in_as_few_ticks_as_it_is_sure_within(self):
        for world in [CORNER, World(7, 6, 1, 3, 4, [(2, 4, 4, 5)])]:
            for state in [state for state in world.states_here() if world.sure_within(state, 0)][::97]:
                counts = max(g for g in range(8) if world.sure_within(state, g) is not None)
                ticks = world.sure_within(state, counts)
                states = [state]
                while not world.there(states[-1]) and len(states) < 40:
                    states.append(behind(states[-1], burned(tell(world, ALONGSIDE, *states)[-1][0])))
                self.assertTrue(world.there(states[-1]))
                self.assertLessEqual(len(states) - 1, ticks)

    def test_which_of_several(self):
        # By the words: which are as good is asked of the plain reading, which one is chosen is written here.
        in_order = [(0, 0), (-1, 0), (0, -1), (0, 1), (1, 0), (-1, -1), (-1, 1), (1, -1), (1, 1)]
        seen = {}
        for state in [state for state in CORNER.states_here() if CORNER.sure_within(state, 0)][::5]:
            counts = max(g for g in range(8) if CORNER.sure_within(state, g) is not None)
            last = CORNER.sure_levels()[CORNER.sure_within(state, counts) - 1]
            good = [burn for burn in CORNER.free_burns(state) if self.leads(last, state, burn, counts)]
            burn = burned(tell(CORNER, ALONGSIDE, state)[0][0])
            self.assertEqual(burn, [burn for burn in in_order if burn in good][0])
            seen[(len(good) > 1, burn)] = True
        self.assertGreater(len(seen), 9)

    def leads(self, last, state, burn, counts):
        if behind(state, burn) not in last[counts]:
            return False
        lesser = {(a, b) for a in (0, burn[0]) for b in (0, burn[1])} - {burn}
        return counts == 0 or all(behind(state, come) in last[counts - 1] for come in lesser)


class Counting(unittest.TestCase):
    def test_how_many_at_most(self):
        self.assertEqual(counted(ROW, (4, 0, 0, 0)), [7])
        self.assertEqual(counted(ROW, (1, 0, -1, 0)), [1])
        self.assertEqual(counted(ROW, (0, 0, -1, 0)), [0])
        self.assertEqual(whats(ROW, ALONGSIDE, (0, 0, -1, 0)), [1])

    def test_within_250_ticks(self):
        self.assertEqual(counted(SLOW, (10, 9, 2, 0)), [6])
        self.assertEqual(counted(SLOW, (9, 10, 2, 0)), [5])
        self.assertEqual(counted(SLOW, (9, 18, 0, 0), (10, 9, 2, 0)), [7, 6])
        self.assertEqual(counted(SLOW, (9, 18, 0, 0), (9, 10, 2, 0)), [7, 5])

    def test_what_it_expects_with_as_many(self):
        self.assertEqual(counted(ROW, (1, 0, -1, 0), (1, 0, 0, 0), (2, 0, 1, 0), (3, 0, 1, 0)), [1, 1, 1, 1])
        self.assertEqual(counted(ROW, (0, 0, -1, 0), (0, 0, 0, 0), (1, 0, 1, 0)), [0, 0, 0])

    def test_a_misfire(self):
        rows = tell(ROW, ALONGSIDE, (1, 0, -1, 0), (0, 0, -1, 0), (0, 0, 0, 0))
        self.assertEqual([row[:4] for row, counts in rows], [[1, 0, 1, 0]] * 3)
        self.assertEqual([counts for row, counts in rows], [1, 0, 0])

    def test_half_a_burn(self):
        # It burns (1, -1), and would be sure with 7, 2, 0 and 0 behind all, a, b and nothing of it.
        self.assertEqual(tell(CORNER, ALONGSIDE, (1, 3, -1, 1))[0][0][:4], [1, 0, 1, -1])
        for seen, counts, alone in [((1, 3, 0, 0), 1, 7), ((1, 4, 0, 1), 0, 2), ((0, 3, -1, 0), 0, 0), ((0, 4, -1, 1), 0, 0)]:
            self.assertEqual(counted(CORNER, (1, 3, -1, 1), seen), [1, counts])
            self.assertEqual(counted(CORNER, seen), [alone])

    def test_not_sure_with_one_fewer(self):
        # It counts with 7, and is sure in what it sees with 1 at most, with none, and not at all.
        self.assertEqual(counted(ROW, (4, 0, 0, 0), (1, 0, -1, 0)), [7, 1])
        self.assertEqual(counted(ROW, (4, 0, 0, 0), (0, 0, -1, 0)), [7, 0])
        self.assertEqual(counted(ROW, (4, 0, 0, 0), (0, 0, -2, 0)), [7, 0])
        self.assertEqual(whats(ROW, ALONGSIDE, (4, 0, 0, 0), (0, 0, -1, 0)), [1, 1])
        self.assertEqual(whats(ROW, ALONGSIDE, (4, 0, 0, 0), (0, 0, -2, 0)), [1, 3])

    def test_another_one_where_it_counts_with_none(self):
        self.assertEqual(counted(ROW, (0, 0, -1, 0), (1, 0, 0, 0)), [0, 7])

    def test_behind_one_at_which_it_is_not_sure_at_all(self):
        self.assertEqual(counted(ROW, (1, 0, -1, 0), (0, 0, -2, 0), (1, 0, 0, 0)), [1, 0, 7])

    def test_waiting_before_the_port(self):
        rows = tell(ROW, ALONGSIDE, *[(4, 0, 0, 0)] * 18)
        self.assertEqual([counts for row, counts in rows], [7, 6, 5, 4, 3, 2, 1, 0, 7, 6, 5, 4, 3, 2, 1, 0, 7, 6])
        self.assertEqual([row for row, counts in rows],
                         [[1, 0, 1, 0] + report(1, 4, 0, 0, 0, k + 1) for k in range(18)])

    def test_the_same_order_again_while_it_counts(self):
        rows = ask(ROW.start(), order(ALONGSIDE, 1), cr_tick(1, 0, -1, 0), order(ALONGSIDE, 1), cr_tick(0, 0, -1, 0),
                   cr_state())
        self.assertEqual(rows[5], [0, 1, 0, 1, 2])

    def test_away_and_back(self):
        rows = ask(ROW.start(), order(ALONGSIDE, 1), cr_tick(1, 0, -1, 0), order(AWAY, 2), cr_tick(1, 0, 0, 0),
                   order(ALONGSIDE, 3), cr_tick(1, 0, 0, 0), cr_state())
        self.assertEqual([row[0] for row in rows], [0, 0, 1, 0, 2, 0, 1, 0])
        self.assertEqual(rows[7], [0, 1, 7, 3, 3])


class Reports(unittest.TestCase):
    def test_place_and_speed(self):
        world = World(32, 32, 0, 20, 20, [(20, 20, 20, 20)])
        for state, speed in [((0, 0, -3, -3), 0), ((31, 31, 3, 3), 48), ((7, 9, -3, 3), 6), ((9, 7, 3, -3), 42),
                             ((1, 2, 0, 0), 24), ((1, 2, 0, 1), 25), ((1, 2, 1, 0), 31)]:
            self.assertEqual(ask(world.start(), cr_tick(*state))[1], [0, 1, 3, 0, state[0], state[1], speed, 1, 0, 0])

    def test_the_number_of_ticks(self):
        rows = ask(ROW.start(), *[cr_tick(0, 0, 0, 0)] * 199)
        self.assertEqual(rows[1:], [[0] + report(0, 0, 0, 0, 0, k + 1) for k in range(199)])

    def test_greater_numbers(self):
        self.assertEqual(report_of(1, (4, 5, 0, 0), 256), [3, 1, 4, 5, 24, 0, 1, 0])
        self.assertEqual(report_of(1, (4, 5, 0, 0), 16777215), [3, 1, 4, 5, 24, 255, 255, 255])
        self.assertEqual(report_without_state(4, 65536 + 512 + 3), [3, 4, 0, 0, 0, 3, 2, 1])


if __name__ == "__main__":
    unittest.main()
