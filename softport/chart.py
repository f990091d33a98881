"""Maps: which are as told, and what the rest asks of one."""

from softport.motion import is_speed
from softport.places import Field

WAYS = ((1, 0), (0, 1), (-1, 0), (0, -1))
WIDEST = 32
MOST_BOXES = 8


class Chart:
    """A map as told."""

    def __init__(self, numbers, boxes):
        self.field = Field(numbers[0], numbers[1])
        self.heading = WAYS[numbers[2]]
        self.port = (numbers[3], numbers[4])
        self.boxes = boxes

    def is_here(self, state):
        return self.field.has(state[0], state[1]) and is_speed(state[2], state[3])

    def is_there(self, state):
        return state == (self.port[0], self.port[1], self.heading[0], self.heading[1])


def boxes_in(row):
    return [tuple(row[k:k + 4]) for k in range(0, len(row), 4)]


def is_chart_as_told(numbers, boxes):
    """Whether w, h, dir, px, py, none, none and the boxes are a map as told."""
    width = numbers[0]
    height = numbers[1]
    if not (1 <= width <= WIDEST and 1 <= height <= WIDEST):
        return False
    if not 1 <= len(boxes) <= MOST_BOXES:
        return False
    if not all([is_box_within(box, width, height) for box in boxes]):
        return False
    if numbers[2] >= len(WAYS) or numbers[5] != 0 or numbers[6] != 0:
        return False
    return is_port_as_told(numbers, boxes)


def is_box_within(box, width, height):
    return 0 <= box[0] <= box[2] < width and 0 <= box[1] <= box[3] < height


def is_port_as_told(numbers, boxes):
    """Whether the port is in a box, and the place before it in the field and in none."""
    heading = WAYS[numbers[2]]
    x = numbers[3] - heading[0]
    y = numbers[4] - heading[1]
    if not Field(numbers[0], numbers[1]).has(x, y):
        return False
    return is_in_a_box(boxes, numbers[3], numbers[4]) and not is_in_a_box(boxes, x, y)


def is_in_a_box(boxes, x, y):
    return any([box[0] <= x <= box[2] and box[1] <= y <= box[3] for box in boxes])
