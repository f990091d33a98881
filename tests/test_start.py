"""Point 1, cr_start, and point 5, pe_start."""

import unittest

from tests.by_words import ALONGSIDE, ask, cr_start, cr_state, cr_tick, order, pe_start, report

GOOD = {"w": 6, "h": 5, "way": 0, "px": 3, "py": 2, "boxes": [(3, 1, 4, 3)]}
EIGHT = [(3, 1, 4, 3), (0, 0, 0, 0), (5, 4, 5, 4), (5, 0, 5, 0), (0, 4, 0, 4), (3, 1, 4, 3), (4, 2, 5, 3), (3, 3, 3, 4)]


def started(**changes):
    return cr_start(**{**GOOD, **changes})


class AsTold(unittest.TestCase):
    def check(self, *calls):
        for call in calls:
            with self.subTest(call=call):
                self.assertEqual(ask(call, cr_state()), [[0], [0, 0, 0, 0, 0]])

    def test_an_ordinary_one(self):
        self.check(started())

    def test_the_least_fields(self):
        self.check(
            cr_start(2, 1, 0, 1, 0, [(1, 0, 1, 0)]),
            cr_start(2, 1, 2, 0, 0, [(0, 0, 0, 0)]),
            cr_start(1, 2, 1, 0, 1, [(0, 1, 0, 1)]),
            cr_start(1, 2, 3, 0, 0, [(0, 0, 0, 0)]))

    def test_the_greatest_fields(self):
        self.check(
            cr_start(32, 32, 0, 31, 31, [(31, 31, 31, 31)]),
            cr_start(32, 32, 1, 0, 31, [(0, 31, 31, 31)]),
            cr_start(32, 32, 2, 30, 0, [(0, 0, 30, 31)]),
            cr_start(32, 32, 3, 31, 30, [(0, 0, 31, 30)]),
            cr_start(32, 1, 0, 31, 0, [(31, 0, 31, 0)]),
            cr_start(1, 32, 1, 0, 31, [(0, 31, 0, 31)]))

    def test_one_box_and_eight(self):
        self.check(started(), started(boxes=EIGHT))

    def test_a_port_in_any_of_the_boxes(self):
        self.check(started(boxes=[(0, 0, 0, 0), (3, 1, 4, 3)]), started(boxes=[(3, 1, 4, 3), (0, 0, 0, 0)]))

    def test_each_way(self):
        box = [(2, 2, 3, 3)]
        self.check(
            cr_start(6, 6, 0, 2, 3, box), cr_start(6, 6, 1, 3, 2, box),
            cr_start(6, 6, 2, 3, 2, box), cr_start(6, 6, 3, 2, 3, box))

    def test_a_port_within_reach_of_no_one(self):
        self.check(cr_start(5, 5, 0, 3, 2, [(3, 2, 3, 2), (1, 1, 3, 1), (1, 3, 3, 3), (1, 2, 1, 2)]))


class NotAsTold(unittest.TestCase):
    def check(self, *calls):
        for call in calls:
            with self.subTest(call=call):
                self.assertEqual(ask(call), [[-22]])

    def test_w(self):
        self.check(started(w=0), started(w=33), started(w=255))

    def test_h(self):
        self.check(started(h=0), started(h=33), started(h=255))

    def test_how_many_boxes(self):
        self.check(started(boxes=[]), started(boxes=EIGHT + [(0, 0, 0, 0)]))

    def test_a_box_out_of_the_field(self):
        for box in [(5, 0, 6, 0), (6, 0, 6, 0), (0, 4, 0, 5), (0, 5, 0, 5), (255, 255, 255, 255)]:
            self.check(started(boxes=[(3, 1, 4, 3), box]), started(boxes=[box, (3, 1, 4, 3)]))

    def test_a_box_the_wrong_way_round(self):
        for box in [(1, 0, 0, 0), (0, 1, 0, 0)]:
            self.check(started(boxes=[(3, 1, 4, 3), box]), started(boxes=[box, (3, 1, 4, 3)]))
        self.check(started(boxes=[(4, 1, 3, 3)]), started(boxes=[(3, 3, 4, 1)]))

    def test_dir(self):
        self.check(started(way=4), started(way=255))

    def test_a_port_in_no_box(self):
        self.check(started(px=2), started(py=0), started(px=5), started(px=200), started(py=200))

    def test_the_place_before_the_port_in_a_box(self):
        self.check(started(px=4), started(way=1), started(way=2), started(boxes=[(3, 1, 4, 3), (2, 2, 2, 2)]))

    def test_the_place_before_the_port_out_of_the_field(self):
        self.check(
            cr_start(4, 4, 0, 0, 1, [(0, 1, 0, 1)]), cr_start(4, 4, 1, 1, 0, [(1, 0, 1, 0)]),
            cr_start(4, 4, 2, 3, 1, [(3, 1, 3, 1)]), cr_start(4, 4, 3, 1, 3, [(1, 3, 1, 3)]),
            cr_start(1, 1, 0, 0, 0, [(0, 0, 0, 0)]))

    def test_none(self):
        self.check(
            started(none_one=1), started(none_two=1), started(none_one=255, none_two=255), started(none_two=255))


class Anew(unittest.TestCase):
    RIGHT = cr_start(6, 1, 0, 5, 0, [(5, 0, 5, 0)])
    LEFT = cr_start(6, 1, 2, 0, 0, [(0, 0, 0, 0)])

    def test_a_refused_one_changes_nothing(self):
        rows = ask(
            self.RIGHT, order(ALONGSIDE, 9), cr_tick(1, 0, -1, 0), cr_state(),
            cr_start(0, 1, 2, 0, 0, [(0, 0, 0, 0)]), cr_state(), cr_tick(1, 0, 0, 0), cr_state())
        self.assertEqual(rows[3:6], [[0, 1, 1, 9, 1], [-22], [0, 1, 1, 9, 1]])
        self.assertEqual(rows[6], [1, 0, 1, 0] + report(1, 1, 0, 0, 0, 2))
        self.assertEqual(rows[7], [0, 1, 1, 9, 2])

    def test_one_that_is_taken_begins_anew(self):
        rows = ask(
            self.RIGHT, order(ALONGSIDE, 9), cr_tick(3, 0, 0, 0), cr_state(),
            self.LEFT, cr_state(), cr_tick(3, 0, 0, 0), order(ALONGSIDE, 1), cr_tick(3, 0, 0, 0), cr_state())
        self.assertEqual(rows[2], [1, 0, 1, 0] + report(1, 3, 0, 0, 0, 1))
        self.assertEqual(rows[4:7], [[0], [0, 0, 0, 0, 0], [0] + report(0, 3, 0, 0, 0, 1)])
        self.assertEqual(rows[8], [1, 0, -1, 0] + report(1, 3, 0, 0, 0, 2))
        self.assertEqual(rows[9], [0, 1, 7, 1, 2])

    def test_the_same_map_again_begins_anew_too(self):
        rows = ask(self.RIGHT, order(ALONGSIDE, 9), cr_tick(1, 0, -1, 0), self.RIGHT, cr_state(),
                   order(ALONGSIDE, 1), cr_tick(1, 0, 0, 0), cr_state())
        self.assertEqual(rows[4], [0, 0, 0, 0, 0])
        self.assertEqual(rows[7], [0, 1, 7, 1, 1])

    def test_a_way_away_anew(self):
        rows = ask(
            self.LEFT, order(2, 1), cr_tick(5, 0, 0, 0), cr_tick(0, 0, -1, 0),
            cr_start(1, 6, 1, 0, 5, [(0, 5, 0, 5)]), order(2, 1), cr_tick(0, 0, 0, 0), cr_tick(5, 0, 0, 0))
        self.assertEqual([row[0] for row in rows], [0, 0, 2, 5, 0, 0, 2, 4])
        self.assertEqual(rows[2][1:4], [0, 0, -1])
        self.assertEqual(rows[6][1:4], [0, -1, 0])


class PeStart(unittest.TestCase):
    def test_it_is_answered(self):
        self.assertEqual(ask(pe_start()), [[0]])

    def test_another_one(self):
        self.assertEqual(ask(pe_start(), pe_start(), pe_start()), [[0], [0], [0]])

    def test_the_craft_stays_as_it_is(self):
        rows = ask(Anew.RIGHT, order(ALONGSIDE, 3), cr_tick(1, 0, -1, 0), pe_start(), cr_state())
        self.assertEqual(rows[3:], [[0], [0, 1, 1, 3, 1]])


if __name__ == "__main__":
    unittest.main()
