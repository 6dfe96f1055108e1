"""A drawing as its bytes tell it: what is judged, and what steps work on.

A point is kept as (y, x), a mark as (y, x, glass, painting), a line as the
numbers of its two points. A drawing is never changed once it is made.
"""

HEADER_BYTES = 20
POINT_BYTES = 8
LINE_BYTES = 4
MARK_BYTES = 12


class Drawing:
    def __init__(self, width, height, points, lines, marks):
        self.width = width
        self.height = height
        self.points = points
        self.lines = lines
        self.marks = marks


def point_place(number):
    return HEADER_BYTES + POINT_BYTES * number


def line_place(drawing, number):
    return point_place(len(drawing.points)) + LINE_BYTES * number


def mark_place(drawing, number):
    return line_place(drawing, len(drawing.lines)) + MARK_BYTES * number


def byte_count(drawing):
    return mark_place(drawing, len(drawing.marks))


def ends_of(drawing):
    points = drawing.points
    return [(points[a], points[b]) for a, b in drawing.lines]


# Told twice, points are one and lines are one; marks are not, since rule 11
# is there to refuse them.
def numbered(width, height, points, ends, marks):
    standing = sorted(set(points))
    numbers = {}
    for number, point in enumerate(standing):
        numbers[point] = number
    lines = [in_order(numbers[p], numbers[q]) for p, q in ends]
    return Drawing(width, height, standing, sorted(set(lines)), sorted(marks))


def in_order(a, b):
    return (a, b) if a < b else (b, a)


def frame_alone(width, height, mark):
    low_left = (0, 0)
    low_right = (0, width)
    high_left = (height, 0)
    high_right = (height, width)
    points = [low_left, low_right, high_left, high_right]
    ends = [
        (low_left, low_right),
        (low_left, high_left),
        (low_right, high_right),
        (high_left, high_right),
    ]
    return numbered(width, height, points, ends, [mark])
