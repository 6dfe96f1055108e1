"""The desk: takes calls in one list of whole numbers, and answers each one."""

from glassrecord.drawing import frame_alone
from glassrecord.layout import drawing_told
from glassrecord.layout import header_fault
from glassrecord.record import DONE
from glassrecord.record import Record
from glassrecord.record import refusal
from glassrecord.rules import judge
from glassrecord.steps import DROP
from glassrecord.steps import ERASE
from glassrecord.steps import LEAD
from glassrecord.steps import MARK
from glassrecord.steps import MOVE

CALL_OPEN = 1
CALL_BARE = 2
CALL_LEAD = 3
CALL_ERASE = 4
CALL_MOVE = 5
CALL_MARK = 6

# By the call: how many whole numbers it has before its row.
NUMBERS = {1: 0, 2: 6, 3: 4, 4: 2, 5: 3, 6: 5, 7: 1}
WITH_ROW = (1, 3)

NO_RECORD = -9
OUT_OF_RANGE = -1
TOO_LONG = -6

MOST_LENGTH = 4294967295
MOST_KIND = 65535
LEAST_LEAD = 2
MOST_LEAD = 64
MOST_BYTES = 131072


class Desk:
    def __init__(self):
        self.record = None

    def answer(self, call, numbers, row):
        if call == CALL_OPEN:
            return self.begin_from_bytes(row)
        if call == CALL_BARE:
            return self.begin_bare(numbers)
        if self.record is None:
            return [NO_RECORD]
        if not in_range(call, numbers, row):
            return [OUT_OF_RANGE]
        return self.record.take(step_told(call, numbers, row))

    def begin_from_bytes(self, data):
        if len(data) > MOST_BYTES:
            return [TOO_LONG]
        fault = header_fault(data)
        if fault is not None:
            return refusal(fault)
        return self.begin(drawing_told(data))

    def begin_bare(self, numbers):
        if not (lengths_fit(numbers[0:2]) and mark_fits(numbers[2:6])):
            return [OUT_OF_RANGE]
        return self.begin(frame_alone(numbers[0], numbers[1], mark_told(numbers[2:6])))

    def begin(self, drawing):
        fault = judge(drawing, None)
        if fault is not None:
            return refusal(fault)
        self.record = Record(drawing)
        return [DONE]


def lengths_fit(lengths):
    return all([0 <= length <= MOST_LENGTH for length in lengths])


def mark_fits(numbers):
    return lengths_fit(numbers[0:2]) and all([0 <= number <= MOST_KIND for number in numbers[2:4]])


def in_range(call, numbers, row):
    if call == CALL_LEAD:
        return mark_fits(numbers) and LEAST_LEAD <= len(row) // 2 <= MOST_LEAD and lengths_fit(row)
    if call == CALL_MOVE:
        return lengths_fit(numbers[1:3])
    if call == CALL_MARK:
        return mark_fits(numbers[1:5])
    return True


def mark_told(numbers):
    return (numbers[1], numbers[0], numbers[2], numbers[3])


def row_told(row):
    return [(row[at + 1], row[at]) for at in range(0, len(row), 2)]


def step_told(call, numbers, row):
    if call == CALL_LEAD:
        return (LEAD, row_told(row), mark_told(numbers))
    if call == CALL_ERASE:
        return (ERASE, numbers[0], numbers[1])
    if call == CALL_MOVE:
        return (MOVE, numbers[0], (numbers[2], numbers[1]))
    if call == CALL_MARK:
        return (MARK, numbers[0], mark_told(numbers[1:5]))
    return (DROP, numbers[0])


def answers(calls):
    desk = Desk()
    told = []
    at = 0
    while at < len(calls):
        call = calls[at]
        row_at = at + 1 + NUMBERS[call]
        numbers = calls[at + 1:row_at]
        row = []
        at = row_at
        if call in WITH_ROW:
            at = row_at + 1 + calls[row_at]
            row = calls[row_at + 1:at]
        answer = desk.answer(call, numbers, row)
        told.append(len(answer))
        told.extend(answer)
    return told
