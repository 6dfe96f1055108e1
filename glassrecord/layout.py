"""The bytes of a cartoon: what they tell, how they are written, and the rules 1 to 3."""

from glassrecord.drawing import Drawing
from glassrecord.drawing import HEADER_BYTES
from glassrecord.drawing import LINE_BYTES
from glassrecord.drawing import MARK_BYTES
from glassrecord.drawing import POINT_BYTES

OPENING = (0x47, 0x4C, 0x41, 0x31)
LEAST_SIDE = 16
MOST_SIDE = 1048575
LEAST_POINTS = 4
MOST_POINTS = 4096
LEAST_LINES = 4
MOST_LINES = 8192
LEAST_MARKS = 1
MOST_MARKS = 2048


def number_at(data, place, size):
    value = 0
    for byte in reversed(data[place:place + size]):
        value = value * 256 + byte
    return value


def two_bytes(value):
    return [value & 255, value >> 8]


def four_bytes(value):
    return [value & 255, value >> 8 & 255, value >> 16 & 255, value >> 24]


def opening_fault(data):
    if len(data) < HEADER_BYTES:
        return (1, len(data))
    if tuple(data[0:4]) != OPENING:
        return (1, 0)
    return None


# Drawings that steps make are held to these limits too, before they ever
# are bytes.
def size_fault(width, height, points, lines, marks):
    if not LEAST_SIDE <= width <= MOST_SIDE:
        return (2, 4)
    if not LEAST_SIDE <= height <= MOST_SIDE:
        return (2, 8)
    if not LEAST_POINTS <= points <= MOST_POINTS:
        return (2, 12)
    if not LEAST_LINES <= lines <= MOST_LINES:
        return (2, 14)
    if not LEAST_MARKS <= marks <= MOST_MARKS:
        return (2, 16)
    return None


def header_fault(data):
    fault = opening_fault(data)
    if fault is not None:
        return fault
    points = number_at(data, 12, 2)
    lines = number_at(data, 14, 2)
    marks = number_at(data, 16, 2)
    fault = size_fault(number_at(data, 4, 4), number_at(data, 8, 4), points, lines, marks)
    if fault is not None:
        return fault
    if number_at(data, 18, 2) != 0:
        return (2, 18)
    if len(data) != HEADER_BYTES + POINT_BYTES * points + LINE_BYTES * lines + MARK_BYTES * marks:
        return (3, HEADER_BYTES)
    return None


def point_at(data, place):
    return (number_at(data, place + 4, 4), number_at(data, place, 4))


def line_at(data, place):
    return (number_at(data, place, 2), number_at(data, place + 2, 2))


def mark_at(data, place):
    spot = point_at(data, place)
    return (spot[0], spot[1], number_at(data, place + 8, 2), number_at(data, place + 10, 2))


# Only for bytes in which header_fault found nothing.
def drawing_told(data):
    lines_begin = HEADER_BYTES + POINT_BYTES * number_at(data, 12, 2)
    marks_begin = lines_begin + LINE_BYTES * number_at(data, 14, 2)
    points = [point_at(data, place) for place in range(HEADER_BYTES, lines_begin, POINT_BYTES)]
    lines = [line_at(data, place) for place in range(lines_begin, marks_begin, LINE_BYTES)]
    marks = [mark_at(data, place) for place in range(marks_begin, len(data), MARK_BYTES)]
    return Drawing(number_at(data, 4, 4), number_at(data, 8, 4), points, lines, marks)


def point_bytes(point):
    return four_bytes(point[1]) + four_bytes(point[0])


def line_bytes(line):
    return two_bytes(line[0]) + two_bytes(line[1])


def mark_bytes(mark):
    return point_bytes(mark) + two_bytes(mark[2]) + two_bytes(mark[3])


def cartoon_bytes(cartoon):
    data = list(OPENING) + four_bytes(cartoon.width) + four_bytes(cartoon.height)
    for row in (cartoon.points, cartoon.lines, cartoon.marks):
        data.extend(two_bytes(len(row)))
    data.extend([0, 0])
    for point in cartoon.points:
        data.extend(point_bytes(point))
    for line in cartoon.lines:
        data.extend(line_bytes(line))
    for mark in cartoon.marks:
        data.extend(mark_bytes(mark))
    return data
