"""The rules: is a drawing a cartoon, and if not, why and where.

A fault is (rule, place), or None where nothing is broken. Each rule may take
for granted that those before it hold.
"""

from glassrecord.drawing import byte_count
from glassrecord.drawing import ends_of
from glassrecord.drawing import line_place
from glassrecord.drawing import mark_place
from glassrecord.drawing import point_place
from glassrecord.geometry import crosses
from glassrecord.geometry import lies_inside
from glassrecord.layout import drawing_told
from glassrecord.layout import header_fault
from glassrecord.layout import size_fault
from glassrecord.panes import panes_of
from glassrecord.ways import first_cut
from glassrecord.ways import first_loose
from glassrecord.ways import first_unreached
from glassrecord.ways import neighbours_of
from glassrecord.ways import walk_deep

FRAME_PLACE = 20


# (fault, None), or (None, the cartoon).
def cartoon_told(data):
    fault = header_fault(data)
    if fault is not None:
        return (fault, None)
    drawing = drawing_told(data)
    fault = judge(drawing, None)
    if fault is not None:
        return (fault, None)
    return (None, drawing)


# before: the cartoon from which a step made the drawing, or None.
def judge(drawing, before):
    fault = form_fault(drawing)
    if fault is None and not same_lines(drawing, before):
        fault = net_fault(drawing, before)
    if fault is None:
        fault = marks_fault(drawing)
    return fault


# Where they are the same, the rules 7 to 10 were judged on the cartoon before.
def same_lines(drawing, before):
    return before is not None and drawing.lines == before.lines and drawing.points == before.points


def net_fault(drawing, before):
    fault = tangle_fault(drawing, before)
    if fault is None:
        fault = ways_fault(drawing)
    return fault


def form_fault(drawing):
    fault = size_fault(
        drawing.width, drawing.height, len(drawing.points), len(drawing.lines), len(drawing.marks)
    )
    if fault is None:
        fault = points_fault(drawing)
    if fault is None:
        fault = lines_fault(drawing)
    if fault is None:
        fault = frame_fault(drawing)
    return fault


def points_fault(drawing):
    last = None
    for number, point in enumerate(drawing.points):
        if point[1] > drawing.width or point[0] > drawing.height:
            return (4, point_place(number))
        if last is not None and point <= last:
            return (4, point_place(number))
        last = point
    return None


def lines_fault(drawing):
    last = None
    for number, line in enumerate(drawing.lines):
        if line[0] >= line[1] or line[1] >= len(drawing.points):
            return (5, line_place(drawing, number))
        if last is not None and line <= last:
            return (5, line_place(drawing, number))
        last = line
    return None


def frame_fault(drawing):
    width = drawing.width
    height = drawing.height
    points = list(enumerate(drawing.points))
    edges = (
        ([number for number, point in points if point[0] == 0], (0, 0), (0, width)),
        ([number for number, point in points if point[1] == 0], (0, 0), (height, 0)),
        ([number for number, point in points if point[1] == width], (0, width), (height, width)),
        ([number for number, point in points if point[0] == height], (height, 0), (height, width)),
    )
    joined = {}
    for line in drawing.lines:
        joined[line] = True
    for row, first, last in edges:
        if not edge_stands(drawing.points, row, first, last, joined):
            return (6, FRAME_PLACE)
    return None


# The points of an edge are numbered along it, so that its corners can only
# be the first and the last.
def edge_stands(points, row, first, last, joined):
    if not row or points[row[0]] != first or points[row[-1]] != last:
        return False
    for line in zip(row, row[1:]):
        if line not in joined:
            return False
    return True


# Lines and points that the cartoon before had too were judged there, so of
# these only what is new is looked at: else long records would be slow.
def tangle_fault(drawing, before):
    known_lines = {}
    known_points = {}
    if before is not None:
        for line in ends_of(before):
            known_lines[line] = True
        for point in before.points:
            known_points[point] = True
    new_points = [point for point in drawing.points if point not in known_points]
    ends = ends_of(drawing)
    new_ends = []
    for number, line in enumerate(ends):
        if line in known_lines:
            tangled = is_tangled(line, new_points, new_ends)
        else:
            numbers = drawing.lines[number]
            tangled = is_tangled(line, drawing.points[numbers[0] + 1:numbers[1]], ends[:number])
            new_ends.append(line)
        if tangled:
            return (7, line_place(drawing, number))
    return None


# The rivals come before the line, so that one that ends at its beginning or
# before can't cross it.
def is_tangled(line, points, rivals):
    first = line[0]
    second = line[1]
    for point in points:
        if lies_inside(first, second, point):
            return True
    for rival in rivals:
        if rival[1] > first and crosses(first, second, rival[0], rival[1]):
            return True
    return False


def ways_fault(drawing):
    neighbours = neighbours_of(drawing)
    number = first_loose(neighbours)
    if number is not None:
        return (8, point_place(number))
    came_from = walk_deep(neighbours)
    number = first_unreached(neighbours, came_from)
    if number is not None:
        return (9, point_place(number))
    number = first_cut(neighbours, came_from)
    if number is not None:
        return (10, point_place(number))
    return None


def marks_fault(drawing):
    panes = panes_of(drawing)
    homes = [panes.home(number) for number in range(len(drawing.marks))]
    number = first_misplaced(drawing, homes)
    if number is not None:
        return (11, mark_place(drawing, number))
    number = first_repeated(homes)
    if number is not None:
        return (12, mark_place(drawing, number))
    if len(homes) < panes.how_many():
        return (13, byte_count(drawing))
    return None


def first_misplaced(drawing, homes):
    last = None
    for number, mark in enumerate(drawing.marks):
        spot = mark[0:2]
        if not (0 < spot[1] < drawing.width and 0 < spot[0] < drawing.height):
            return number
        if homes[number] is None or (last is not None and spot <= last):
            return number
        last = spot
    return None


def first_repeated(homes):
    seen = {}
    for number, home in enumerate(homes):
        if home in seen:
            return number
        seen[home] = True
    return None
