"""The desk: takes calls in one list of whole numbers, and answers each one."""

from glassrecord.drawing import frame_alone
from glassrecord.layout import cartoon_bytes
from glassrecord.record import DONE
from glassrecord.record import Record
from glassrecord.record import refusal
from glassrecord.rules import cartoon_told
from glassrecord.rules import judge
from glassrecord.saved import record_told
from glassrecord.saved import saved_bytes
from glassrecord.steps import DROP
from glassrecord.steps import ERASE
from glassrecord.steps import LEAD
from glassrecord.steps import LEAST_LEAD
from glassrecord.steps import MARK
from glassrecord.steps import MOST_LEAD
from glassrecord.steps import MOVE

CALL_OPEN = 1
CALL_BARE = 2
CALL_LEAD = 3
CALL_ERASE = 4
CALL_MOVE = 5
CALL_MARK = 6
CALL_DROP = 7
CALL_UNDO = 8
CALL_REDO = 9
CALL_COUNT = 10
CALL_PLAN = 11
CALL_READ = 13

# By the call: how many whole numbers it has before its row.
NUMBERS = {1: 0, 2: 6, 3: 4, 4: 2, 5: 3, 6: 5, 7: 1, 8: 0, 9: 0, 10: 1, 11: 0, 12: 0, 13: 0}
WITH_ROW = (1, 3, 13)

COUNT_DONE = 0
COUNT_UNDONE = 1
COUNT_PANES = 2

NO_RECORD = -9
OUT_OF_RANGE = -1
TOO_LONG = -6

MOST_LENGTH = 4294967295
MOST_KIND = 65535
MOST_CARTOON_BYTES = 131072
MOST_SAVED_BYTES = 67108864


class Desk:
    def __init__(self):
        self.record = None

    def answer(self, call, numbers, row):
        if call == CALL_OPEN:
            return self.begin_from_cartoon(row)
        if call == CALL_BARE:
            return self.begin_bare(numbers)
        if call == CALL_READ:
            return self.begin_from_saved(row)
        if self.record is None:
            return [NO_RECORD]
        if not in_range(call, numbers, row):
            return [OUT_OF_RANGE]
        if call <= CALL_DROP:
            return self.record.take(step_told(call, numbers, row))
        return [DONE] + told_of(self.record, call, numbers)

    def begin_from_cartoon(self, data):
        if len(data) > MOST_CARTOON_BYTES:
            return [TOO_LONG]
        told = cartoon_told(data)
        if told[0] is not None:
            return refusal(told[0])
        return self.begin(Record(told[1]))

    def begin_bare(self, numbers):
        if not (lengths_fit(numbers[0:2]) and mark_fits(numbers[2:6])):
            return [OUT_OF_RANGE]
        drawing = frame_alone(numbers[0], numbers[1], mark_told(numbers[2:6]))
        fault = judge(drawing, None)
        if fault is not None:
            return refusal(fault)
        return self.begin(Record(drawing))

    def begin_from_saved(self, data):
        if len(data) > MOST_SAVED_BYTES:
            return [TOO_LONG]
        told = record_told(data)
        if told[0] is not None:
            return refusal(told[0])
        return self.begin(told[1])

    def begin(self, record):
        self.record = record
        return [DONE]


def lengths_fit(lengths):
    return all([0 <= length <= MOST_LENGTH for length in lengths])


def mark_fits(numbers):
    return lengths_fit(numbers[0:2]) and all([0 <= number <= MOST_KIND for number in numbers[2:4]])


def in_range(call, numbers, row):
    if call == CALL_LEAD:
        return mark_fits(numbers) and LEAST_LEAD <= len(row) // 2 <= MOST_LEAD and lengths_fit(row)
    if call == CALL_MOVE:
        return lengths_fit(numbers[1:3])
    if call == CALL_MARK:
        return mark_fits(numbers[1:5])
    if call == CALL_COUNT:
        return numbers[0] <= COUNT_PANES
    return True


def mark_told(numbers):
    return (numbers[1], numbers[0], numbers[2], numbers[3])


def row_told(row):
    return [(row[at + 1], row[at]) for at in range(0, len(row), 2)]


def step_told(call, numbers, row):
    if call == CALL_LEAD:
        return (LEAD, row_told(row), mark_told(numbers))
    if call == CALL_ERASE:
        return (ERASE, numbers[0], numbers[1])
    if call == CALL_MOVE:
        return (MOVE, numbers[0], (numbers[2], numbers[1]))
    if call == CALL_MARK:
        return (MARK, numbers[0], mark_told(numbers[1:5]))
    return (DROP, numbers[0])


def told_of(record, call, numbers):
    if call == CALL_UNDO:
        return [record.undo()]
    if call == CALL_REDO:
        return [record.redo()]
    if call == CALL_COUNT:
        return [counted(record, numbers[0])]
    if call == CALL_PLAN:
        return with_count(cartoon_bytes(record.cartoon()))
    return with_count(saved_bytes(record))


def counted(record, what):
    if what == COUNT_DONE:
        return record.done
    if what == COUNT_UNDONE:
        return record.undone()
    return len(record.cartoon().marks)


def with_count(data):
    return [len(data)] + data


def answers(calls):
    desk = Desk()
    told = []
    at = 0
    while at < len(calls):
        call = calls[at]
        row_at = at + 1 + NUMBERS[call]
        numbers = calls[at + 1:row_at]
        row = []
        at = row_at
        if call in WITH_ROW:
            at = row_at + 1 + calls[row_at]
            row = calls[row_at + 1:at]
        answer = desk.answer(call, numbers, row)
        told.append(len(answer))
        told.extend(answer)
    return told
