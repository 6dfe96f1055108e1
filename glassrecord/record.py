"""A record: a first cartoon, the steps done from it, and those that are undone."""

from glassrecord.rules import judge
from glassrecord.steps import drawing_after

MOST_STEPS = 65536

DONE = 0
NO_SUCH_THING = -2
TOO_MANY_STEPS = -3
NOT_TAKEN = -5


# The steps stand as they are saved: those done, then those undone in the
# order in which redo does them. The cartoons are the first one and the one
# behind each step: so to undo is to go back among them.
class Record:
    def __init__(self, first):
        self.cartoons = [first]
        self.steps = []
        self.done = 0

    def cartoon(self):
        return self.cartoons[self.done]

    def undone(self):
        return len(self.steps) - self.done

    # The answer's numbers; the record is changed only if they are DONE alone.
    def take(self, step):
        drawn = drawing_after(self.cartoon(), step)
        if drawn is None:
            return [NO_SUCH_THING]
        fault = judge(drawn, self.cartoon())
        if fault is not None:
            return refusal(fault)
        if self.done >= MOST_STEPS:
            return [TOO_MANY_STEPS]
        self.forget_undone()
        self.cartoons.append(drawn)
        self.steps.append(step)
        self.done += 1
        return [DONE]

    def forget_undone(self):
        while self.undone() > 0:
            self.cartoons.pop()
            self.steps.pop()

    def undo(self):
        if self.done == 0:
            return 0
        self.done -= 1
        return 1

    def redo(self):
        if self.undone() == 0:
            return 0
        self.done += 1
        return 1


def refusal(fault):
    return [NOT_TAKEN, fault[0], fault[1]]
