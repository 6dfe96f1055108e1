"""undo and redo: what they answer, what they bring, and what is forgotten."""

import unittest

from tests.records import CARTOONS, FIRST, PANES, STEPS, WHOLE
from tests.tools import (
    Table, bare, drop, erase, lead, mark, move, opened, read, record_saved, redo, told, undo)

DONE_ONE = [0, 1]
NONE_THERE = [0, 0]


def with_undone(steps, undone):
    """A table on which so many of the shared steps are done, and so many of these undone."""
    return Table(FIRST, *STEPS[:steps], *[undo()] * undone)


class Undo(unittest.TestCase):
    def test_there_is_none(self):
        self.assertEqual(told(FIRST, undo(), undo()), [[0], NONE_THERE, NONE_THERE])
        self.assertEqual(Table(FIRST, undo()).state(), Table(FIRST).state())

    def test_one_step(self):
        self.assertEqual(told(FIRST, STEPS[0], undo(), undo()), [[0], [0], DONE_ONE, NONE_THERE])

    def test_behind_each_step_it_brings_the_cartoon_before(self):
        table = Table(FIRST)
        for n, step in enumerate(STEPS):
            self.assertEqual(table.put(step), [0])
            self.assertEqual(table.held(), CARTOONS[n + 1])
            self.assertEqual(table.put(undo()), DONE_ONE)
            self.assertEqual(table.held(), CARTOONS[n])
            self.assertEqual(table.counts(), [n, 1, PANES[n]])
            self.assertEqual(table.put(redo()), DONE_ONE)
            self.assertEqual(table.held(), CARTOONS[n + 1])
            self.assertEqual(table.counts(), [n + 1, 0, PANES[n + 1]])

    def test_to_the_end(self):
        table = Table(FIRST, *STEPS)
        for n in range(WHOLE - 1, -1, -1):
            self.assertEqual(table.put(undo()), DONE_ONE)
            self.assertEqual(table.held(), CARTOONS[n])
            self.assertEqual(table.counts(), [n, WHOLE - n, PANES[n]])
        for n in range(3):
            self.assertEqual(table.put(undo()), NONE_THERE)
            self.assertEqual(table.held(), CARTOONS[0])
            self.assertEqual(table.counts(), [0, WHOLE, 1])


class Redo(unittest.TestCase):
    def test_there_is_none(self):
        self.assertEqual(told(FIRST, redo(), STEPS[0], redo()), [[0], NONE_THERE, [0], NONE_THERE])
        self.assertEqual(Table(FIRST, STEPS[0], redo()).state(), Table(FIRST, STEPS[0]).state())

    def test_one_step(self):
        self.assertEqual(told(FIRST, STEPS[0], undo(), redo(), redo()), [[0], [0], DONE_ONE, DONE_ONE, NONE_THERE])

    def test_to_the_end_and_back(self):
        table = with_undone(WHOLE, WHOLE)
        for n in range(1, WHOLE + 1):
            self.assertEqual(table.put(redo()), DONE_ONE)
            self.assertEqual(table.held(), CARTOONS[n])
            self.assertEqual(table.counts(), [n, WHOLE - n, PANES[n]])
        for n in range(3):
            self.assertEqual(table.put(redo()), NONE_THERE)
        self.assertEqual(table.state(), Table(FIRST, *STEPS).state())

    def test_back_and_forth_in_the_middle(self):
        table = with_undone(WHOLE, 3)
        at = WHOLE - 3
        for call, way in ((undo(), -1), (redo(), 1), (redo(), 1), (undo(), -1), (undo(), -1), (redo(), 1)):
            at += way
            self.assertEqual(table.put(call), DONE_ONE)
            self.assertEqual(table.held(), CARTOONS[at])
            self.assertEqual(table.saved(), record_saved(CARTOONS[0], STEPS[:at], STEPS[at:]))


class Forgotten(unittest.TestCase):
    def test_each_step_that_is_taken_forgets_what_was_undone(self):
        for call in (lead([(0, 3), (10, 3)], 1, 1), erase(0, 2), move(5, 14, 13), mark(0, 20, 4), drop(5)):
            table = with_undone(WHOLE, WHOLE - 3)
            self.assertEqual(table.put(call), [0], call)
            self.assertEqual(table.counts()[:2], [4, 0])
            self.assertEqual(table.put(redo()), NONE_THERE)
            self.assertEqual(table.saved(), record_saved(CARTOONS[0], STEPS[:3] + (call,)))
            self.assertEqual(table.put(undo()), DONE_ONE)
            self.assertEqual(table.held(), CARTOONS[3])
            self.assertEqual(table.saved(), record_saved(CARTOONS[0], STEPS[:3], (call,)))

    def test_all_was_undone(self):
        call = lead([(0, 3), (30, 3)], 1, 1)
        table = with_undone(WHOLE, WHOLE)
        self.assertEqual(table.put(call), [0])
        self.assertEqual(table.counts(), [1, 0, 2])
        self.assertEqual(table.saved(), record_saved(CARTOONS[0], (call,)))

    def test_the_same_step_again_forgets_too(self):
        table = with_undone(WHOLE, 4)
        self.assertEqual(table.put(STEPS[WHOLE - 4]), [0])
        self.assertEqual(table.held(), CARTOONS[WHOLE - 3])
        self.assertEqual(table.counts()[:2], [WHOLE - 3, 0])
        self.assertEqual(table.put(redo()), NONE_THERE)

    def test_what_is_refused_forgets_nothing(self):
        refused = (
            (lead([(10, 10)], 1, 1), [-1]),
            (mark(0, 4294967296, 1), [-1]),
            (move(9, 1, 1), [-2]),
            (drop(0), [-5, 6, 20]),
            (mark(3, 1, 1), [-2]),
            (erase(0, 0), [-2]),
            (lead([(0, 3), (10, 3)], 5, 5), [-5, 12, 20 + 8 * 11 + 4 * 14 + 24]),
            (opened(CARTOONS[0][:-1]), [-5, 3, 20]),
            (bare(3, 3, 1, 1), [-5, 2, 4]),
            (read([]), [-5, 1, 0]),
            ([10, 3], [-1]),
        )
        for call, answer in refused:
            table = with_undone(WHOLE, 4)
            before = table.state()
            self.assertEqual(table.put(call), answer, call)
            self.assertEqual(table.state(), before)
            for n in range(4):
                self.assertEqual(table.put(redo()), DONE_ONE)
            self.assertEqual(table.state(), Table(FIRST, *STEPS).state())


class Anew(unittest.TestCase):
    def test_open_bare_and_read_bring_another_record(self):
        saved = record_saved(CARTOONS[1], STEPS[1:3], STEPS[3:5])
        beginnings = (
            (opened(CARTOONS[3]), record_saved(CARTOONS[3]), [0, 0, 3]),
            (FIRST, record_saved(CARTOONS[0]), [0, 0, 1]),
            (read(saved), saved, [2, 2, 3]),
        )
        for call, expected, counts in beginnings:
            for table in (Table(), with_undone(WHOLE, 0), with_undone(WHOLE, 2), with_undone(WHOLE, WHOLE)):
                self.assertEqual(table.put(call), [0])
                self.assertEqual(table.saved(), expected)
                self.assertEqual(table.counts(), counts)
                self.assertEqual(table.put(redo()), [0, min(1, counts[1])])

    def test_behind_open_and_bare_there_is_nothing_to_undo(self):
        for call in (opened(CARTOONS[3]), FIRST):
            self.assertEqual(told(FIRST, *STEPS, undo(), call, undo(), redo())[-3:], [[0], NONE_THERE, NONE_THERE])


class NoRecord(unittest.TestCase):
    def test_refused(self):
        self.assertEqual(told(undo(), redo(), undo()), [[-9], [-9], [-9]])

    def test_behind_a_beginning_that_was_refused(self):
        self.assertEqual(told(bare(3, 3, 1, 1), undo(), redo()), [[-5, 2, 4], [-9], [-9]])


if __name__ == "__main__":
    unittest.main()
