"""A record: a first cartoon, the steps done from it, the cartoon they lead to."""

from glassrecord.rules import judge
from glassrecord.steps import drawing_after

MOST_STEPS = 65536

DONE = 0
NO_SUCH_THING = -2
TOO_MANY_STEPS = -3
NOT_TAKEN = -5


class Record:
    def __init__(self, first):
        self.first = first
        self.cartoon = first
        self.steps_done = []

    # The answer's numbers; the record is changed only if they are DONE alone.
    def take(self, step):
        drawn = drawing_after(self.cartoon, step)
        if drawn is None:
            return [NO_SUCH_THING]
        fault = judge(drawn, self.cartoon)
        if fault is not None:
            return refusal(fault)
        if len(self.steps_done) >= MOST_STEPS:
            return [TOO_MANY_STEPS]
        self.steps_done.append(step)
        self.cartoon = drawn
        return [DONE]


def refusal(fault):
    return [NOT_TAKEN, fault[0], fault[1]]
