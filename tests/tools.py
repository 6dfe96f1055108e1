"""What the tests share: writing calls and bytes, and reading answers apart."""

from glassrecord.desk import Desk, answers, NUMBERS, WITH_ROW


def low_first(value, size):
    return [(value >> (8 * i)) & 255 for i in range(size)]


def cartoon_bytes(width, height, points, lines, marks):
    """The bytes as the document's table has them, in the order handed in."""
    data = [0x47, 0x4C, 0x41, 0x31] + low_first(width, 4) + low_first(height, 4)
    data += low_first(len(points), 2) + low_first(len(lines), 2) + low_first(len(marks), 2) + [0, 0]
    for x, y in points:
        data += low_first(x, 4) + low_first(y, 4)
    for a, b in lines:
        data += low_first(a, 2) + low_first(b, 2)
    for x, y, glass, painting in marks:
        data += low_first(x, 4) + low_first(y, 4) + low_first(glass, 2) + low_first(painting, 2)
    return data


def grid(columns, rows):
    """Squares with sides of 10, a mark in the middle of each."""
    points = [(10 * x, 10 * y) for y in range(rows + 1) for x in range(columns + 1)]
    numbers = {point: number for number, point in enumerate(points)}
    lines = [(numbers[x, y], numbers[x + dx, y + dy]) for x, y in points for dx, dy in ((10, 0), (0, 10))
             if (x + dx, y + dy) in numbers]
    marks = [(10 * x + 5, 10 * y + 5, x, y) for y in range(rows) for x in range(columns)]
    return cartoon_bytes(10 * columns, 10 * rows, points, sorted(lines), marks)


def number_at(data, at, size):
    return sum(data[at + i] << (8 * i) for i in range(size))


class Told:
    """What a cartoon's bytes tell."""

    def __init__(self, data):
        self.width, self.height = number_at(data, 4, 4), number_at(data, 8, 4)
        count, lines, marks = (number_at(data, at, 2) for at in (12, 14, 16))
        self.points_at, self.lines_at = 20, 20 + 8 * count
        self.marks_at = self.lines_at + 4 * lines
        self.points = [(number_at(data, at, 4), number_at(data, at + 4, 4))
                       for at in range(20, self.lines_at, 8)]
        self.lines = [(number_at(data, at, 2), number_at(data, at + 2, 2))
                      for at in range(self.lines_at, self.marks_at, 4)]
        self.marks = [(number_at(data, at, 4), number_at(data, at + 4, 4), number_at(data, at + 8, 2),
                       number_at(data, at + 10, 2)) for at in range(self.marks_at, self.marks_at + 12 * marks, 12)]

    def ends(self):
        return [(self.points[a], self.points[b]) for a, b in self.lines]


def in_bytes(*parts):
    """Numbers with how many bytes each one has."""
    return [byte for value, size in parts for byte in low_first(value, size)]


def mark_saved(x, y, glass, painting):
    return in_bytes((x, 4), (y, 4), (glass, 2), (painting, 2))


def step_saved(call):
    """A step's bytes in a saved record, from the call that does it."""
    rest = call[1:]
    if call[0] == 3:
        return [0, len(rest[5:]) // 2] + in_bytes(*[(number, 4) for number in rest[5:]]) + mark_saved(*rest[:4])
    if call[0] == 4:
        return [1] + in_bytes((rest[0], 2), (rest[1], 2))
    if call[0] == 5:
        return [2] + in_bytes((rest[0], 2), (rest[1], 4), (rest[2], 4))
    if call[0] == 6:
        return [3] + in_bytes((rest[0], 2)) + mark_saved(*rest[1:])
    return [4] + in_bytes((rest[0], 2))


def record_saved(first, done=(), undone=()):
    """A saved record, from its first cartoon's bytes and the calls that do its steps."""
    data = [0x47, 0x4C, 0x41, 0x48] + in_bytes((len(first), 4), (len(done), 4), (len(undone), 4)) + list(first)
    for call in list(done) + list(undone):
        data += step_saved(call)
    return data


def opened(data):
    return [1, len(data)] + list(data)


def bare(width, height, x, y, glass=0, painting=0):
    return [2, width, height, x, y, glass, painting]


def lead(row, x, y, glass=0, painting=0):
    numbers = [number for point in row for number in point]
    return [3, x, y, glass, painting, len(numbers)] + numbers


def erase(i, j):
    return [4, i, j]


def move(k, x, y):
    return [5, k, x, y]


def mark(i, x, y, glass=0, painting=0):
    return [6, i, x, y, glass, painting]


def drop(k):
    return [7, k]


def undo():
    return [8]


def redo():
    return [9]


def count(what):
    return [10, what]


def plan():
    return [11]


def save():
    return [12]


def read(data):
    return [13, len(data)] + list(data)


def told(*calls):
    """Each call's answer as a list of its own."""
    numbers = answers([number for call in calls for number in call])
    rows = []
    at = 0
    while at < len(numbers):
        rows.append(numbers[at + 1:at + 1 + numbers[at]])
        at += 1 + numbers[at]
    if at != len(numbers):
        raise ValueError("the answers do not come out even")
    return rows


def last_told(*calls):
    return told(*calls)[-1]


class Table:
    """A desk on which calls are put one by one; what it holds is seen by calls too."""

    def __init__(self, *calls):
        self.desk = Desk()
        for call in calls:
            answer = self.put(call)
            if answer[0] != 0:
                raise ValueError(f"{call} was refused: {answer}")

    def put(self, call):
        row_at = 1 + NUMBERS[call[0]]
        row = call[row_at + 1:] if call[0] in WITH_ROW else []
        return self.desk.answer(call[0], call[1:row_at], row)

    def told(self, call):
        """What's answered behind the 0."""
        answer = self.put(call)
        if answer[0] != 0:
            raise ValueError(f"{call} was refused: {answer}")
        return answer[1:]

    def told_bytes(self, call):
        answer = self.told(call)
        if answer[0] != len(answer) - 1:
            raise ValueError(f"{call} tells {answer[0]} bytes, and there are {len(answer) - 1}")
        return answer[1:]

    def held(self):
        return self.told_bytes(plan())

    def saved(self):
        return self.told_bytes(save())

    def counts(self):
        return [number for what in range(3) for number in self.told(count(what))]

    def state(self):
        """All that can be asked of a record without a change."""
        return [self.put(call) for call in (plan(), save(), count(0), count(1), count(2))]

    def points(self):
        return Told(self.held()).points

    def lines(self):
        return Told(self.held()).lines

    def full_marks(self):
        return Told(self.held()).marks

    def marks(self):
        return [mark[:2] for mark in self.full_marks()]
