"""The craft: what it is told, what it sees, what it burns and sends."""

from softport.chart import Chart, boxes_in, is_chart_as_told
from softport.drift import Drifts
from softport.messages import ALONGSIDE, AWAY, answer_to, is_order, number_of_order
from softport.messages import report_of, report_without_state, sent, what_of
from softport.motion import behind_tick
from softport.refusals import NO_MESSAGE, NOT_AS_TOLD
from softport.routes import MOST_TICKS, AwayRoutes, SureRoutes

NO_BURN = (0, 0)

IDLE = 0
COMING = 1
GOING = 2
HELPLESS = 3
NOT_HERE = 4
THERE = 5


class Craft:
    def __init__(self):
        self.begin(None)

    def begin(self, chart):
        self.chart = chart
        self.mode = 0
        self.last_order = 0
        self.tick_count = 0
        self.expect_nothing()
        # Found when first asked for, as they take by far the longest; they hold for this map alone.
        self.drifts = None
        self.sure_routes = None
        self.away_routes = None

    def expect_nothing(self):
        self.expected = None
        self.misfires = 0

    def start(self, numbers, row):
        boxes = boxes_in(row)
        if not is_chart_as_told(numbers, boxes):
            return [NOT_AS_TOLD]
        self.begin(Chart(numbers, boxes))
        return [0]

    def tick(self, state):
        self.tick_count += 1
        decision = self.decide(state)
        what = decision[0]
        burn = decision[1]
        if what == NOT_HERE:
            report = report_without_state(what, self.tick_count)
        else:
            report = report_of(what, state, self.tick_count)
        if burn == NO_BURN:
            return [what] + sent(report)
        return [what, 0, burn[0], burn[1]] + sent(report)

    def decide(self, state):
        """What's answered, and the burn."""
        if self.chart.is_there(state):
            self.expect_nothing()
            return (THERE, NO_BURN)
        if not self.chart.is_here(state):
            self.expect_nothing()
            return (NOT_HERE, NO_BURN)
        if self.mode == ALONGSIDE:
            return self.come_alongside(state)
        if self.mode == AWAY:
            return self.go_away(state)
        return (IDLE, NO_BURN)

    def come_alongside(self, state):
        self.find_sure_routes()
        misfires = self.misfires_at(state)
        if misfires is None:
            self.expect_nothing()
            return (HELPLESS, NO_BURN)
        burn = self.sure_routes.chosen_burn(state, misfires)
        self.expected = behind_tick(state, burn)
        self.misfires = misfires
        return (COMING, burn)

    def misfires_at(self, state):
        """With how many misfires it counts, seen in this state; None if it isn't sure with none either."""
        if state == self.expected:
            return self.misfires
        # Where it expects nothing it counts with none, so this asks for that too.
        if self.misfires > 0 and self.sure_routes.is_sure(state, MOST_TICKS, self.misfires - 1):
            return self.misfires - 1
        return self.sure_routes.most_misfires(state)

    def go_away(self, state):
        self.find_away_routes()
        if not self.away_routes.is_away(state, MOST_TICKS):
            return (HELPLESS, NO_BURN)
        return (GOING, self.away_routes.chosen_burn(state))

    def find_sure_routes(self):
        if self.sure_routes is None:
            self.find_drifts()
            self.sure_routes = SureRoutes(self.chart, self.drifts)

    def find_away_routes(self):
        if self.away_routes is None:
            self.find_drifts()
            self.away_routes = AwayRoutes(self.chart, self.drifts)

    def find_drifts(self):
        if self.drifts is None:
            self.drifts = Drifts(self.chart)

    def heard(self, m):
        if not is_order(m):
            return [NO_MESSAGE]
        number = number_of_order(m)
        if number < self.last_order:
            return [0]
        if number > self.last_order:
            self.last_order = number
            self.mode = what_of(m)
            self.expect_nothing()
        return [0] + sent(answer_to(self.mode, self.last_order))

    def told_state(self):
        return [0, self.mode, self.misfires, self.last_order, self.tick_count]
