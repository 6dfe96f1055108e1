"""The document a second time, as slow and as literal as can be.

Nothing of the package is used here. Points are (x, y); a drawing is judged
from its bytes alone, and each rule goes by the document's own words.
"""

from fractions import Fraction
from functools import cmp_to_key

from tests.tools import Told, cartoon_bytes, number_at, record_saved


def turn(p, q, r):
    return (q[0] - p[0]) * (r[1] - q[1]) - (q[1] - p[1]) * (r[0] - q[0])


def is_on(p, q, r):
    if turn(p, q, r) != 0:
        return False
    return min(p[0], q[0]) <= r[0] <= max(p[0], q[0]) and min(p[1], q[1]) <= r[1] <= max(p[1], q[1])


def common_points(p, q, r, s):
    """Some points that two lines share: all of them, or at least one inside a shared stretch."""
    dx, dy, ex, ey = q[0] - p[0], q[1] - p[1], s[0] - r[0], s[1] - r[1]
    across = dx * ey - dy * ex
    if across == 0:
        shared = sorted({end for end in (p, q) if is_on(r, s, end)} | {end for end in (r, s) if is_on(p, q, end)})
        if len(shared) < 2:
            return shared
        # Three points of the stretch: no two lines have all of them as ends.
        low, high = shared[0], shared[-1]
        return [(Fraction(low[0] * (4 - i) + high[0] * i, 4), Fraction(low[1] * (4 - i) + high[1] * i, 4))
                for i in (1, 2, 3)]
    along = Fraction((r[0] - p[0]) * ey - (r[1] - p[1]) * ex, across)
    other = Fraction((r[0] - p[0]) * dy - (r[1] - p[1]) * dx, across)
    if 0 <= along <= 1 and 0 <= other <= 1:
        return [(p[0] + along * dx, p[1] + along * dy)]
    return []


def crosses(p, q, r, s):
    return any(point not in (p, q, r, s) for point in common_points(p, q, r, s))


def behind(point, other):
    return (point[1], point[0]) > (other[1], other[0])


def judged(data):
    """None, or the rule and the place."""
    if len(data) < 20:
        return (1, len(data))
    if data[:4] != [0x47, 0x4C, 0x41, 0x31]:
        return (1, 0)
    for at, size, low, high in ((4, 4, 16, 1048575), (8, 4, 16, 1048575), (12, 2, 4, 4096), (14, 2, 4, 8192),
                                (16, 2, 1, 2048), (18, 2, 0, 0)):
        if not low <= number_at(data, at, size) <= high:
            return (2, at)
    counts = [number_at(data, at, 2) for at in (12, 14, 16)]
    if len(data) != 20 + 8 * counts[0] + 4 * counts[1] + 12 * counts[2]:
        return (3, 20)
    told = Told(data)
    for rule, broken, begin, size in ((4, bad_points, told.points_at, 8), (5, bad_lines, told.lines_at, 4),
                                      (6, bad_frame, 20, 0), (7, tangled, told.lines_at, 4),
                                      (8, loose, 20, 8), (9, unreached, 20, 8), (10, cutting, 20, 8),
                                      (11, misplaced, told.marks_at, 12), (12, repeated, told.marks_at, 12)):
        numbers = broken(told)
        if numbers:
            return (rule, begin + size * min(numbers))
    if any(not any(inside(outline, mark) for mark in told.marks) for outline in outlines(told)):
        return (13, len(data))
    return None


def bad_points(told):
    return [i for i, (x, y) in enumerate(told.points) if x > told.width or y > told.height
            or (i > 0 and not behind((x, y), told.points[i - 1]))]


def bad_lines(told):
    return [i for i, (a, b) in enumerate(told.lines)
            if not a < b or not b < len(told.points) or (i > 0 and not (a, b) > told.lines[i - 1])]


def bad_frame(told):
    corners = [(0, 0), (told.width, 0), (told.width, told.height), (0, told.height)]
    if any(corner not in told.points for corner in corners):
        return [0]
    lines = {frozenset(line) for line in told.ends()}
    for i in range(4):
        edge = sorted(point for point in told.points if is_on(corners[i], corners[i - 1], point))
        if any(frozenset(pair) not in lines for pair in zip(edge, edge[1:])):
            return [0]
    return []


def tangled(told):
    ends = told.ends()
    for i, (p, q) in enumerate(ends):
        if any(is_on(p, q, r) and r not in (p, q) for r in told.points):
            return [i]
        if any(crosses(p, q, r, s) for r, s in ends[:i]):
            return [i]
    return []


def loose(told):
    return [k for k in range(len(told.points)) if sum(k in line for line in told.lines) < 2]


def reached(told, begin, without):
    seen, waiting = {begin}, [begin]
    while waiting:
        here = waiting.pop()
        for a, b in told.lines:
            if here in (a, b):
                there = a + b - here
                if there != without and there not in seen:
                    seen.add(there)
                    waiting.append(there)
    return seen


def unreached(told):
    seen = reached(told, 0, None)
    return [k for k in range(len(told.points)) if k not in seen]


def cutting(told):
    for k in range(len(told.points)):
        if len(reached(told, 1 if k == 0 else 0, k)) < len(told.points) - 1:
            return [k]
    return []


def misplaced(told):
    ends = told.ends()
    return [i for i, mark in enumerate(told.marks)
            if not (0 < mark[0] < told.width and 0 < mark[1] < told.height)
            or any(is_on(p, q, mark[:2]) for p, q in ends)
            or (i > 0 and not behind(mark, told.marks[i - 1]))]


def repeated(told):
    faces = outlines(told)
    homes = [[n for n, outline in enumerate(faces) if inside(outline, mark)] for mark in told.marks]
    return [i for i, home in enumerate(homes) if home in homes[:i]]


def around(point, others):
    """The others as they are met going round the point to the left, from the right on."""
    def half(other):
        return 0 if other[1] > point[1] or (other[1] == point[1] and other[0] > point[0]) else 1

    def compare(one, other):
        if half(one) != half(other):
            return half(one) - half(other)
        across = (one[0] - point[0]) * (other[1] - point[1]) - (one[1] - point[1]) * (other[0] - point[0])
        return -1 if across > 0 else 1

    return sorted(others, key=cmp_to_key(compare))


def outlines(told):
    """Each pane's corners with the pane to the left; rules 6 to 10 are to hold."""
    beside = {}
    for p, q in told.ends():
        beside.setdefault(p, []).append(q)
        beside.setdefault(q, []).append(p)
    onward = {}
    for point, others in beside.items():
        ring = around(point, others)
        for i, other in enumerate(ring):
            onward[(other, point)] = (point, ring[i - 1])
    faces, seen = [], set()
    for begin in onward:
        if begin in seen:
            continue
        row, here = [], begin
        while here not in seen:
            seen.add(here)
            row.append(here[0])
            here = onward[here]
        if doubled_area(row) > 0:
            faces.append(row)
    return faces


def doubled_area(row):
    return sum(p[0] * q[1] - p[1] * q[0] for p, q in zip(row, row[1:] + row[:1]))


def inside(row, mark):
    """Is the mark, on no line, within the outline: a way to the right meets it an odd number of times."""
    odd = False
    for p, q in zip(row, row[1:] + row[:1]):
        if (p[1] > mark[1]) != (q[1] > mark[1]):
            if p[0] + Fraction((mark[1] - p[1]) * (q[0] - p[0]), q[1] - p[1]) > mark[0]:
                odd = not odd
    return odd


def pane_of_mark(told, mark):
    return [outline for outline in outlines(told) if inside(outline, mark)][0]


def panes_by_mark(data):
    """For each mark the pane's corners, from the least on."""
    told = Told(data)
    rows = {}
    for mark in told.marks:
        row = pane_of_mark(told, mark)
        least = min(range(len(row)), key=lambda i: (row[i][1], row[i][0]))
        rows[mark] = row[least:] + row[:least]
    return rows


def written(told, points, lines, marks):
    """A drawing's bytes, numbered anew; points and lines as they are told, also twice."""
    standing = sorted(set(points), key=lambda point: (point[1], point[0]))
    numbers = {point: i for i, point in enumerate(standing)}
    rows = {tuple(sorted((numbers[p], numbers[q]))) for p, q in lines}
    ordered = sorted(marks, key=lambda one: (one[1], one[0], one[2], one[3]))
    return cartoon_bytes(told.width, told.height, standing, sorted(rows), ordered)


def after_lead(told, row, mark):
    lines = list(zip(row, row[1:]))
    for p, q in told.ends():
        stops = sorted({point for point in row if is_on(p, q, point)} | {p, q})
        lines += list(zip(stops, stops[1:]))
    return written(told, told.points + row, lines, told.marks + [mark])


def after_erase(told, i, j):
    if i >= len(told.marks) or j >= len(told.marks) or i == j:
        return None
    sides = []
    for number in (i, j):
        row = pane_of_mark(told, told.marks[number])
        sides.append({frozenset(pair) for pair in zip(row, row[1:] + row[:1])})
    gone = sides[0] & sides[1]
    if not gone:
        return None
    lines = [line for line in told.ends() if frozenset(line) not in gone]
    points = [point for point in told.points if any(point in line for line in lines)]
    return written(told, points, lines, told.marks[:j] + told.marks[j + 1:])


def after_move(told, k, point):
    if k >= len(told.points):
        return None
    points = [point if i == k else old for i, old in enumerate(told.points)]
    return written(told, points, [(points[a], points[b]) for a, b in told.lines], told.marks)


def after_mark(told, i, mark):
    if i >= len(told.marks):
        return None
    return written(told, told.points, told.ends(), [mark if n == i else old for n, old in enumerate(told.marks)])


def after_drop(told, k):
    if k >= len(told.points):
        return None
    point = told.points[k]
    near = [(set(line) - {point}).pop() for line in told.ends() if point in line]
    if len(near) != 2:
        return None
    lines = [line for line in told.ends() if point not in line] + [tuple(near)]
    return written(told, [other for other in told.points if other != point], lines, told.marks)


def step_told(data, at):
    """The call that does the step at a place of a saved record, and the place behind it.

    Or the rule and the place of what's broken, with None in the call's stead.
    """
    missing = (None, (6, len(data)))
    rest = data[at:]
    if not rest:
        return missing
    if rest[0] > 4:
        return (None, (5, at))
    if rest[0] == 0 and len(rest) > 1 and (rest[1] < 2 or rest[1] > 64):
        return (None, (5, at + 1))
    sizes = {0: [1, 1], 1: [1, 2, 2], 2: [1, 2, 4, 4], 3: [1, 2, 4, 4, 2, 2], 4: [1, 2]}[rest[0]]
    if rest[0] == 0 and len(rest) > 1:
        sizes = [1, 1] + [4] * (2 * rest[1]) + [4, 4, 2, 2]
    if len(rest) < sum(sizes):
        return missing
    numbers = [number_at(rest, sum(sizes[:i]), size) for i, size in enumerate(sizes)]
    if rest[0] == 0:
        return ([3] + numbers[-4:] + [2 * rest[1]] + numbers[2:-4], at + sum(sizes))
    return ([3 + rest[0]] + numbers[1:], at + sum(sizes))


class Oracle:
    """Answers calls as the desk does.

    The cartoon is kept as its bytes, a step as the call that does it. The
    steps done have the cartoon before them by their side; the last one that
    was undone stands first among those.
    """

    def __init__(self):
        self.data = None
        self.begin([])

    def begin(self, first):
        self.first, self.done, self.undone = list(first), [], []

    def put(self, call):
        number, rest = call[0], call[1:]
        if number in (1, 2, 13):
            return {1: self.put_open, 2: self.put_bare, 13: self.put_read}[number](rest)
        if self.data is None:
            return [-9]
        if self.too_great(number, rest):
            return [-1]
        if number <= 7:
            return self.put_step(call)
        if number == 8:
            return [0, self.undo()]
        if number == 9:
            return [0, self.redo()]
        if number == 10:
            return [0, [len(self.done), len(self.undone), len(Told(self.data).marks)][rest[0]]]
        told = self.data if number == 11 else self.saved()
        return [0, len(told)] + told

    def put_open(self, rest):
        return self.settle(rest[1:])

    def settle(self, data):
        fault = judged(data)
        if fault is not None:
            return [-5, fault[0], fault[1]]
        self.begin(data)
        self.data = list(data)
        return [0]

    def put_bare(self, rest):
        if max(rest[:4]) > 4294967295 or max(rest[4:]) > 65535:
            return [-1]
        width, height = rest[:2]
        points = [(0, 0), (width, 0), (0, height), (width, height)]
        return self.settle(cartoon_bytes(width, height, points, [(0, 1), (0, 2), (1, 3), (2, 3)], [tuple(rest[2:])]))

    def put_step(self, call):
        data = self.drawn(call[0], call[1:])
        if data is None:
            return [-2]
        fault = judged(data)
        if fault is not None:
            return [-5, fault[0], fault[1]]
        if len(self.done) + 1 > 65536:
            return [-3]
        self.done = self.done + [(list(call), self.data)]
        self.undone = []
        self.data = data
        return [0]

    def undo(self):
        if not self.done:
            return 0
        call, self.data = self.done[-1]
        self.done = self.done[:-1]
        self.undone = [call] + self.undone
        return 1

    def redo(self):
        if not self.undone:
            return 0
        call = self.undone[0]
        self.undone = self.undone[1:]
        self.done = self.done + [(call, self.data)]
        self.data = self.drawn(call[0], call[1:])
        return 1

    def saved(self):
        return record_saved(self.first, [call for call, before in self.done], self.undone)

    def put_read(self, rest):
        other = Oracle()
        fault = other.read_fault(rest[1:])
        if fault is not None:
            return [-5, fault[0], fault[1]]
        self.data, self.first, self.done, self.undone = other.data, other.first, other.done, other.undone
        return [0]

    def read_fault(self, data):
        """Reads, or tells the rule and the place; for a new one alone."""
        if len(data) < 16:
            return (1, len(data))
        if data[:4] != [0x47, 0x4C, 0x41, 0x48]:
            return (1, 0)
        size, done, undone = (number_at(data, at, 4) for at in (4, 8, 12))
        if done + undone > 65536:
            return (2, 8)
        first = data[16:16 + size]
        if len(first) != size:
            return (3, len(data))
        answer = self.settle(first)
        if answer != [0]:
            return (4, 16 + answer[2])
        at = 16 + size
        for n in range(done + undone):
            call, place = step_told(data, at)
            if call is None:
                return place
            if self.put_step(call) != [0]:
                return (7, at)
            at = place
        if len(data) > at:
            return (8, at)
        for n in range(undone):
            self.undo()
        return None

    def too_great(self, number, rest):
        lengths = {3: rest[0:2] + rest[5:], 5: rest[1:3], 6: rest[1:3]}.get(number, [])
        kinds = {3: rest[2:4], 6: rest[3:5]}.get(number, [])
        if number == 3 and not 2 <= len(rest[5:]) // 2 <= 64:
            return True
        if number == 10 and rest[0] > 2:
            return True
        return max(lengths + [0]) > 4294967295 or max(kinds + [0]) > 65535

    def drawn(self, number, rest):
        told = Told(self.data)
        if number == 3:
            return after_lead(told, list(zip(rest[5::2], rest[6::2])), tuple(rest[:4]))
        if number == 4:
            return after_erase(told, rest[0], rest[1])
        if number == 5:
            return after_move(told, rest[0], (rest[1], rest[2]))
        if number == 6:
            return after_mark(told, rest[0], tuple(rest[1:]))
        return after_drop(told, rest[0])
