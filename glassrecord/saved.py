"""The bytes of a saved record: how they are written, judged and read.

The rules are those of records: a fault is (rule, place), or None where
nothing is broken.
"""

from glassrecord.drawing import POINT_BYTES
from glassrecord.layout import cartoon_bytes
from glassrecord.layout import four_bytes
from glassrecord.layout import mark_at
from glassrecord.layout import mark_bytes
from glassrecord.layout import number_at
from glassrecord.layout import point_at
from glassrecord.layout import point_bytes
from glassrecord.layout import two_bytes
from glassrecord.record import DONE
from glassrecord.record import MOST_STEPS
from glassrecord.record import Record
from glassrecord.rules import cartoon_told
from glassrecord.steps import DROP
from glassrecord.steps import ERASE
from glassrecord.steps import LEAD
from glassrecord.steps import LEAST_LEAD
from glassrecord.steps import MARK
from glassrecord.steps import MOST_LEAD
from glassrecord.steps import MOVE

RECORD_OPENING = (0x47, 0x4C, 0x41, 0x48)
FIRST_PLACE = 16

# By the kind: how many bytes a step has; of a lead those beside its points.
STEP_BYTES = (14, 5, 11, 15, 3)


def saved_bytes(record):
    first = cartoon_bytes(record.cartoons[0])
    data = list(RECORD_OPENING)
    for number in (len(first), record.done, record.undone()):
        data.extend(four_bytes(number))
    data.extend(first)
    for step in record.steps:
        data.extend(step_bytes(step))
    return data


def step_bytes(step):
    data = [step[0]]
    if step[0] == LEAD:
        data.append(len(step[1]))
        for point in step[1]:
            data.extend(point_bytes(point))
        return data + mark_bytes(step[2])
    data.extend(two_bytes(step[1]))
    if step[0] == ERASE:
        return data + two_bytes(step[2])
    if step[0] == MOVE:
        return data + point_bytes(step[2])
    if step[0] == MARK:
        return data + mark_bytes(step[2])
    return data


# (fault, None), or (None, the record).
def record_told(data):
    fault = head_fault(data)
    if fault is not None:
        return (fault, None)
    steps_place = FIRST_PLACE + number_at(data, 4, 4)
    told = cartoon_told(data[FIRST_PLACE:steps_place])
    if told[0] is not None:
        return ((4, FIRST_PLACE + told[0][1]), None)
    record = Record(told[1])
    fault = steps_fault(record, data, steps_place)
    if fault is not None:
        return (fault, None)
    for number in range(number_at(data, 12, 4)):
        record.undo()
    return (None, record)


def head_fault(data):
    if len(data) < FIRST_PLACE:
        return (1, len(data))
    if tuple(data[0:4]) != RECORD_OPENING:
        return (1, 0)
    if steps_told(data) > MOST_STEPS:
        return (2, 8)
    if FIRST_PLACE + number_at(data, 4, 4) > len(data):
        return (3, len(data))
    return None


def steps_told(data):
    return number_at(data, 8, 4) + number_at(data, 12, 4)


# The record is a new one: it takes the steps as they are judged, the undone
# ones too, since each is judged on the cartoon that those before it lead to.
def steps_fault(record, data, place):
    for number in range(steps_told(data)):
        fault = step_fault(data, place)
        if fault is not None:
            return fault
        if record.take(step_at(data, place)) != [DONE]:
            return (7, place)
        place += step_size(data, place)
    if place < len(data):
        return (8, place)
    return None


def step_fault(data, place):
    missing = (6, len(data))
    if place >= len(data):
        return missing
    if data[place] > DROP:
        return (5, place)
    if data[place] == LEAD:
        if place + 1 >= len(data):
            return missing
        if not LEAST_LEAD <= data[place + 1] <= MOST_LEAD:
            return (5, place + 1)
    if place + step_size(data, place) > len(data):
        return missing
    return None


def step_size(data, place):
    size = STEP_BYTES[data[place]]
    if data[place] == LEAD:
        size += POINT_BYTES * data[place + 1]
    return size


def step_at(data, place):
    kind = data[place]
    if kind == LEAD:
        return lead_at(data, place)
    number = number_at(data, place + 1, 2)
    if kind == ERASE:
        return (ERASE, number, number_at(data, place + 3, 2))
    if kind == MOVE:
        return (MOVE, number, point_at(data, place + 3))
    if kind == MARK:
        return (MARK, number, mark_at(data, place + 3))
    return (DROP, number)


def lead_at(data, place):
    row_place = place + 2
    mark_place = row_place + POINT_BYTES * data[place + 1]
    row = [point_at(data, at) for at in range(row_place, mark_place, POINT_BYTES)]
    return (LEAD, row, mark_at(data, mark_place))
