"""Panes: the region that each mark is in, and those on the two sides of a line.

The drawing is passed from its first point to its last. At each height the
lines that are passed stand from left to right, with a gap before, between
and behind them. A gap belongs to a region; regions that turn out to be one
are linked.
"""

from glassrecord.drawing import ends_of
from glassrecord.geometry import count_left
from glassrecord.geometry import turn

OUTSIDE = 0


class Sweep:
    def __init__(self):
        self.passed = []
        self.gaps = [OUTSIDE]
        self.links = [OUTSIDE]
        self.sides = {}

    def new_region(self):
        self.links.append(len(self.links))
        return len(self.links) - 1

    def region(self, number):
        while self.links[number] != number:
            self.links[number] = self.links[self.links[number]]
            number = self.links[number]
        return number

    # The lesser number stays, so that outside stays outside.
    def link(self, one, other):
        one = self.region(one)
        other = self.region(other)
        self.links[max(one, other)] = min(one, other)

    def gap_at(self, spot):
        at = count_left(self.passed, spot)
        if at < len(self.passed):
            line = self.passed[at]
            if turn(line[0], line[1], spot) == 0:
                return None
        return self.gaps[at]

    def gaps_above(self, left, right, begun):
        if begun == 0:
            self.link(left, right)
            return [left]
        between = [self.new_region() for number in range(begun - 1)]
        return [left] + between + [right]

    def pass_point(self, point, ended, tops):
        at = count_left(self.passed, point)
        begun = left_to_right(point, tops)
        gaps = self.gaps_above(self.gaps[at], self.gaps[at + ended], len(begun))
        for number, line in enumerate(begun):
            self.sides[line] = (gaps[number], gaps[number + 1])
        self.passed = self.passed[:at] + begun + self.passed[at + ended:]
        self.gaps = self.gaps[:at] + gaps + self.gaps[at + ended + 1:]


def left_to_right(point, tops):
    row = []
    for top in tops:
        row.insert(count_left(row, top), (point, top))
    return row


# What the rest asks of a sweep that is done.
class Panes:
    def __init__(self, sweep, gaps):
        self.sweep = sweep
        self.mark_gaps = gaps

    # None for a mark on a line.
    def home(self, mark):
        gap = self.mark_gaps[mark]
        return None if gap is None else self.sweep.region(gap)

    def homes_beside(self, line):
        gaps = self.sweep.sides[line]
        return (self.sweep.region(gaps[0]), self.sweep.region(gaps[1]))

    def how_many(self):
        links = self.sweep.links
        own = [number for number in range(len(links)) if links[number] == number]
        return len(own) - 1


# Marks may stand in any order here, since rule 11 is judged by what is found.
def panes_of(drawing):
    sweep = Sweep()
    tops = [[] for point in drawing.points]
    ended = [0 for point in drawing.points]
    for a, b in drawing.lines:
        tops[a].append(drawing.points[b])
        ended[b] += 1
    gaps = [OUTSIDE for mark in drawing.marks]
    waiting = sorted([(mark[0], mark[1], number) for number, mark in enumerate(drawing.marks)])
    at = 0
    for number, point in enumerate(drawing.points):
        while at < len(waiting) and waiting[at][0:2] <= point:
            spot = waiting[at][0:2]
            gaps[waiting[at][2]] = None if spot == point else sweep.gap_at(spot)
            at += 1
        sweep.pass_point(point, ended[number], tops[number])
    return Panes(sweep, gaps)


def lines_between(drawing, i, j):
    panes = panes_of(drawing)
    homes = (panes.home(i), panes.home(j))
    turned = (homes[1], homes[0])
    return [line for line in ends_of(drawing) if panes.homes_beside(line) in (homes, turned)]
