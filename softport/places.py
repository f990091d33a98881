"""Sets of places of a field, each held as one whole number with a bit for each place."""

from softport.motion import FASTEST


class Field:
    def __init__(self, width, height):
        self.width = width
        self.height = height
        # As many empty columns behind each row as the fastest craft crosses in a tick:
        # so no step leads from the end of one row into another row.
        self.stride = width + FASTEST
        self.everywhere = self.block(0, 0, width - 1, height - 1)

    def has(self, x, y):
        return 0 <= x < self.width and 0 <= y < self.height

    def place(self, x, y):
        return 1 << (y * self.stride + x)

    def block(self, x1, y1, x2, y2):
        """The field's places from x1 to x2 and from y1 to y2; none if an end lies before its beginning."""
        left = max(x1, 0)
        right = min(x2, self.width - 1)
        if left > right:
            return 0
        row = ((1 << (right - left + 1)) - 1) << left
        places = 0
        for y in range(max(y1, 0), min(y2, self.height - 1) + 1):
            places = places | (row << (y * self.stride))
        return places

    def before(self, places, vx, vy):
        """The field's places from which a tick with this speed leads to one of these places."""
        step = vy * self.stride + vx
        if step >= 0:
            return (places >> step) & self.everywhere
        return (places << -step) & self.everywhere
