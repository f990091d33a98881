"""The people's end of the link."""


class PeoplesEnd:
    def __init__(self):
        self.begin()

    def begin(self):
        self.order_number = 0
        self.order_what = 0
        self.order_answered = False
        self.report_number = 0
        self.report_what = 0
        self.report_x = 0
        self.report_y = 0
        self.report_speed = 0

    def start(self):
        self.begin()
        return [0]
