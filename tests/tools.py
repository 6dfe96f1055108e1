"""What the tests share: writing calls and bytes, and reading answers apart."""

from glassrecord.desk import Desk, answers, NUMBERS, WITH_ROW


def low_first(value, size):
    return [(value >> (8 * i)) & 255 for i in range(size)]


def cartoon_bytes(width, height, points, lines, marks):
    """The bytes as the document's table has them, in the order handed in."""
    data = [0x47, 0x4C, 0x41, 0x31] + low_first(width, 4) + low_first(height, 4)
    data += low_first(len(points), 2) + low_first(len(lines), 2) + low_first(len(marks), 2) + [0, 0]
    for x, y in points:
        data += low_first(x, 4) + low_first(y, 4)
    for a, b in lines:
        data += low_first(a, 2) + low_first(b, 2)
    for x, y, glass, painting in marks:
        data += low_first(x, 4) + low_first(y, 4) + low_first(glass, 2) + low_first(painting, 2)
    return data


def bytes_held(cartoon):
    """The bytes of a cartoon that a record holds."""
    points = [(x, y) for y, x in cartoon.points]
    marks = [(x, y, glass, painting) for y, x, glass, painting in cartoon.marks]
    return cartoon_bytes(cartoon.width, cartoon.height, points, cartoon.lines, marks)


def opened(data):
    return [1, len(data)] + list(data)


def bare(width, height, x, y, glass=0, painting=0):
    return [2, width, height, x, y, glass, painting]


def lead(row, x, y, glass=0, painting=0):
    numbers = [number for point in row for number in point]
    return [3, x, y, glass, painting, len(numbers)] + numbers


def erase(i, j):
    return [4, i, j]


def move(k, x, y):
    return [5, k, x, y]


def mark(i, x, y, glass=0, painting=0):
    return [6, i, x, y, glass, painting]


def drop(k):
    return [7, k]


def told(*calls):
    """Each call's answer as a list of its own."""
    numbers = answers([number for call in calls for number in call])
    rows = []
    at = 0
    while at < len(numbers):
        rows.append(numbers[at + 1:at + 1 + numbers[at]])
        at += 1 + numbers[at]
    if at != len(numbers):
        raise ValueError("the answers do not come out even")
    return rows


def last_told(*calls):
    return told(*calls)[-1]


class Table:
    """A desk on which calls are put one by one, and whose cartoon can be seen."""

    def __init__(self, *calls):
        self.desk = Desk()
        for call in calls:
            answer = self.put(call)
            if answer != [0]:
                raise ValueError(f"{call} was refused: {answer}")

    def put(self, call):
        count = NUMBERS[call[0]]
        row = call[2 + count:] if call[0] in WITH_ROW else []
        return self.desk.answer(call[0], call[1:1 + count], row)

    def held(self):
        return bytes_held(self.desk.record.cartoon)

    def points(self):
        return [(x, y) for y, x in self.desk.record.cartoon.points]

    def lines(self):
        return list(self.desk.record.cartoon.lines)

    def marks(self):
        return [(x, y) for y, x, glass, painting in self.desk.record.cartoon.marks]
