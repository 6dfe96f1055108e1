"""The five steps: the drawing that each one makes of a cartoon.

A step is (LEAD, row, mark), (ERASE, i, j), (MOVE, k, point), (MARK, i, mark)
or (DROP, k). None is given back where there is no such thing.
"""

from glassrecord.drawing import Drawing
from glassrecord.drawing import ends_of
from glassrecord.drawing import numbered
from glassrecord.geometry import lies_inside
from glassrecord.panes import lines_between

LEAD = 0
ERASE = 1
MOVE = 2
MARK = 3
DROP = 4

LEAST_LEAD = 2
MOST_LEAD = 64


def drawing_after(cartoon, step):
    if step[0] == LEAD:
        return with_lead(cartoon, step[1], step[2])
    if step[0] == ERASE:
        return with_erased(cartoon, step[1], step[2])
    if step[0] == MOVE:
        return with_moved(cartoon, step[1], step[2])
    if step[0] == MARK:
        return with_mark(cartoon, step[1], step[2])
    return with_dropped(cartoon, step[1])


def redrawn(cartoon, points, ends, marks):
    return numbered(cartoon.width, cartoon.height, points, ends, marks)


def joined(row):
    return list(zip(row, row[1:]))


def parted(line, row):
    inside = [point for point in row if lies_inside(line[0], line[1], point)]
    if not inside:
        return [line]
    return joined([line[0]] + sorted(set(inside)) + [line[1]])


def with_lead(cartoon, row, mark):
    ends = joined(row)
    for line in ends_of(cartoon):
        ends.extend(parted(line, row))
    return redrawn(cartoon, cartoon.points + list(row), ends, cartoon.marks + [mark])


def with_erased(cartoon, i, j):
    if i == j or max(i, j) >= len(cartoon.marks):
        return None
    gone = {}
    for line in lines_between(cartoon, i, j):
        gone[line] = True
    if not gone:
        return None
    ends = [line for line in ends_of(cartoon) if line not in gone]
    points = [line[0] for line in ends] + [line[1] for line in ends]
    return redrawn(cartoon, points, ends, cartoon.marks[:j] + cartoon.marks[j + 1:])


def with_moved(cartoon, k, point):
    if k >= len(cartoon.points):
        return None
    points = cartoon.points[:k] + [point] + cartoon.points[k + 1:]
    ends = [(points[a], points[b]) for a, b in cartoon.lines]
    return redrawn(cartoon, points, ends, cartoon.marks)


def with_mark(cartoon, i, mark):
    if i >= len(cartoon.marks):
        return None
    marks = cartoon.marks[:i] + [mark] + cartoon.marks[i + 1:]
    return Drawing(cartoon.width, cartoon.height, cartoon.points, cartoon.lines, sorted(marks))


def with_dropped(cartoon, k):
    points = cartoon.points
    near = [a + b - k for a, b in cartoon.lines if k in (a, b)]
    if len(near) != 2:
        return None
    ends = [(points[a], points[b]) for a, b in cartoon.lines if k not in (a, b)]
    ends.append((points[near[0]], points[near[1]]))
    return redrawn(cartoon, points[:k] + points[k + 1:], ends, cartoon.marks)
