"""Calls drawn by a seeded chance, such that many are taken and many are not."""

from tests import oracle
from tests.tools import (
    bare, cartoon_bytes, count, drop, erase, in_bytes, lead, mark, move, opened, plan, read, redo, save, undo)


def spot_on(chance, row):
    """A corner of the outline, or a whole point inside one of its lines."""
    at = chance.randrange(len(row))
    p, q = row[at], row[at - 1]
    between = [(p[0] + (q[0] - p[0]) * i // 12, p[1] + (q[1] - p[1]) * i // 12) for i in range(1, 12)]
    between = [point for point in between if oracle.is_on(p, q, point)]
    return chance.choice(between) if between and chance.random() < 0.6 else p


def spot_in(chance, row):
    """A whole point within the outline, most times."""
    xs, ys = [x for x, y in row], [y for x, y in row]
    for n in range(6):
        spot = (chance.randint(min(xs), max(xs)), chance.randint(min(ys), max(ys)))
        if oracle.inside(row, spot):
            break
    return spot


def spot_near(chance, told):
    return (chance.randrange(told.width + 2), chance.randrange(told.height + 2))


def some_lead(chance, told):
    row = chance.choice(oracle.outlines(told))
    points = [spot_on(chance, row), spot_on(chance, row)]
    for n in range(chance.choice((0, 0, 1, 1, 2))):
        points.insert(1, spot_in(chance, row))
    if chance.random() < 0.08:
        points.insert(chance.randrange(len(points) + 1), chance.choice(points))
    if chance.random() < 0.08:
        points[chance.randrange(len(points))] = spot_near(chance, told)
    if chance.random() < 0.03:
        points = points[:1]
    return lead(points, *spot_in(chance, row), chance.randrange(9))


def some_move(chance, told):
    k = chance.randrange(len(told.points) + 1)
    if k == len(told.points) or chance.random() < 0.2:
        return move(k, *spot_near(chance, told))
    if chance.random() < 0.15:
        return move(k, *chance.choice(told.points))
    x, y = told.points[k]
    return move(k, max(0, x + chance.randint(-3, 3)), max(0, y + chance.randint(-3, 3)))


def some_mark(chance, told):
    i = chance.randrange(len(told.marks) + 1)
    if i == len(told.marks) or chance.random() < 0.3:
        return mark(i, *spot_near(chance, told))
    x, y = told.marks[i][:2]
    return mark(i, max(0, x + chance.randint(-4, 4)), max(0, y + chance.randint(-4, 4)), chance.randrange(70000))


def some_call(chance, data):
    told = oracle.Told(data)
    kind = chance.random()
    if kind < 0.5:
        return some_lead(chance, told)
    if kind < 0.62:
        return erase(chance.randrange(len(told.marks) + 1), chance.randrange(len(told.marks) + 1))
    if kind < 0.75:
        return some_move(chance, told)
    if kind < 0.88:
        return some_mark(chance, told)
    if kind < 0.995:
        return drop(chance.randrange(len(told.points) + 1))
    return some_bare(chance)


def some_bare(chance):
    width, height = chance.choice((15, 16, 24, 60, 200)), chance.choice((16, 20, 30, 100, 300))
    return bare(width, height, chance.randint(0, width), chance.randint(0, height), 3, 4)


def grown(chance, steps):
    """The bytes of a cartoon that calls by chance lead to."""
    other = oracle.Oracle()
    while other.data is None:
        other.put(some_bare(chance))
    for n in range(steps):
        other.put(some_lead(chance, oracle.Told(other.data)))
    return other.data


def spoiled(chance, data):
    """The same bytes with something changed: a byte, a point, a line, a mark, or their order."""
    told = oracle.Told(data)
    kind = chance.randrange(9)
    if kind == 0:
        at = chance.randrange(len(data))
        return data[:at] + [chance.choice((0, 1, data[at] ^ 1, 255))] + data[at + 1:]
    if kind == 1:
        return data[:chance.randrange(len(data))] if chance.random() < 0.5 else data + [0]
    rows = {"points": told.points, "lines": told.lines, "marks": told.marks}
    name = chance.choice(("points", "lines", "lines", "marks"))
    row = rows[name]
    at = chance.randrange(len(row))
    if kind in (2, 3):
        rows[name] = row[:at] + row[at + 1:]
    elif kind == 4:
        rows[name] = row[:at] + [row[at]] + row[at:]
    elif kind == 5:
        rows[name] = row[:at] + row[at:at + 2][::-1] + row[at + 2:]
    elif kind == 6:
        a, b = sorted((chance.randrange(len(told.points)), chance.randrange(len(told.points))))
        rows["lines"] = sorted(set(told.lines + [(a, b)]))
    elif kind == 7:
        x, y = spot_near(chance, told)
        rows["marks"] = sorted(told.marks + [(x, y, 1, 2)], key=lambda one: (one[1], one[0]))
    else:
        x, y = spot_near(chance, told)
        rows["points"] = [(x, y) if k == at else point for k, point in enumerate(told.points)]
    return cartoon_bytes(told.width, told.height, rows["points"], rows["lines"], rows["marks"])


def scribbled(chance):
    """The bytes of a frame with some lines and rings in it, most of which make no cartoon."""
    width, height = chance.choice((16, 20, 50)), chance.choice((16, 30))
    points = [(0, 0), (width, 0), (0, height), (width, height)]
    for n in range(chance.randrange(3)):
        points.append(chance.choice(((0, chance.randrange(height)), (chance.randrange(width), 0))))
    lines = []
    for n in range(chance.randint(0, 3)):
        ring = [(chance.randint(1, width - 1), chance.randint(1, height - 1)) for i in range(chance.randint(2, 4))]
        if chance.random() < 0.6:
            ring[0] = chance.choice(points)
        points += ring
        lines += list(zip(ring, ring[1:] + (ring[:1] if chance.random() < 0.8 else [])))
    corners = [(0, 0), (width, 0), (width, height), (0, height)]
    for p, q in list(zip(corners, corners[1:] + corners[:1])):
        row = sorted({point for point in points if oracle.is_on(p, q, point)})
        lines += list(zip(row, row[1:]))
    marks = sorted({(chance.randint(1, height - 1), chance.randint(1, width - 1)) for i in range(chance.randint(1, 4))})
    told = oracle.Told(cartoon_bytes(width, height, [], [], []))
    return oracle.written(told, points, [line for line in lines if line[0] != line[1]],
                          [(x, y, 0, 0) for y, x in marks])


def steps_at(data):
    """The places of the steps in a saved record that can be read, and the place behind them."""
    places = [16 + oracle.number_at(data, 4, 4)]
    while places[-1] < len(data):
        places.append(oracle.step_told(data, places[-1])[1])
    return places


def with_steps(data, steps, done, undone):
    """A saved record's bytes with other steps, and as many told as are asked."""
    first = data[16:steps_at(data)[0]]
    return data[:8] + in_bytes((done, 4), (undone, 4)) + first + [byte for step in steps for byte in step]


def spoiled_first(chance, data):
    """With something changed in the first cartoon, told as long as it then is, or not."""
    places = steps_at(data)
    first = spoiled(chance, data[16:places[0]])
    size = len(first) if chance.random() < 0.8 else chance.choice((0, len(first) - 1, len(first) + 1, len(data)))
    return data[:4] + in_bytes((size, 4)) + data[8:16] + first + data[places[0]:]


def spoiled_record(chance, data):
    """A saved record's bytes with something changed: a byte, a step, their order, their number, the first cartoon."""
    kind = chance.randrange(8)
    places = steps_at(data)
    if kind == 0:
        at = chance.randrange(len(data))
        return data[:at] + [chance.choice((0, 1, data[at] ^ 1, data[at] ^ 2, 255))] + data[at + 1:]
    if kind == 1:
        return data[:chance.randrange(len(data))] if chance.random() < 0.5 else data + [chance.randrange(6)]
    steps = [data[begin:end] for begin, end in zip(places, places[1:])]
    if kind == 2 or not steps:
        return spoiled_first(chance, data)
    done, undone = (oracle.number_at(data, at, 4) for at in (8, 12))
    at = chance.randrange(len(steps))
    if kind == 3:
        steps[at] = chance.choice(([5] + steps[at][1:], [0] + steps[at][1:], steps[at][:-1], steps[at] + [0]))
    elif kind == 4:
        steps[at:at + 2] = steps[at:at + 2][::-1]
    elif kind == 5:
        steps = steps[:at] + steps[at + 1:]
        done, undone = (done - 1, undone) if done else (done, undone - 1)
    elif kind == 6:
        place = chance.randrange(len(steps[at]))
        steps[at] = steps[at][:place] + [chance.choice((0, 1, 2, 3, 4, 65, 255))] + steps[at][place + 1:]
    else:
        done, undone = chance.choice(((done + 1, undone), (done, undone + 1), (max(0, done - 1), undone),
                                      (done + undone, 0), (0, done + undone), (65536, 1)))
    return with_steps(data, steps, done, undone)


def any_call(chance, data, saves):
    """One of all thirteen calls; the cartoon's bytes, or None, and some saved records go in."""
    kind = chance.random()
    if kind < 0.10:
        return undo()
    if kind < 0.18:
        return redo()
    if kind < 0.22:
        return count(chance.choice((0, 1, 2, 3, 4294967296)))
    if kind < 0.25:
        return plan()
    if kind < 0.30:
        return save()
    if kind < 0.36 and saves:
        saved = chance.choice(saves)
        return read(saved if chance.random() < 0.4 else spoiled_record(chance, saved))
    if kind < 0.365:
        return opened(grown(chance, 3))
    if data is None:
        return chance.choice((some_bare(chance), drop(0), mark(0, 1, 1)))
    if kind < 0.375:
        return opened(spoiled(chance, data))
    return some_call(chance, data)


def some_record(chance, calls):
    """The saved bytes of a record that calls by chance lead to, with steps done and undone."""
    other = oracle.Oracle()
    other.put(opened(grown(chance, 2)))
    for n in range(calls):
        other.put(some_call(chance, other.data))
    for n in range(chance.randrange(4)):
        other.put(undo())
    return other.saved()
