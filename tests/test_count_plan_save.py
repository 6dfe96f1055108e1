"""count, plan and save: what they tell, number by number, and that they change nothing."""

import unittest

from tests.records import CARTOONS, FIRST, PANES, STEPS, WHOLE
from tests.tools import (
    Table, bare, count, drop, erase, grid, last_told, lead, mark, move, opened, plan, read, record_saved, redo, save,
    told, undo)

# A frame of 300 by 70000 with a lead from (0, 256) to (300, 65536), byte by byte.
LONG_PLAN = [
    71, 76, 65, 49, 44, 1, 0, 0, 112, 17, 1, 0, 6, 0, 7, 0, 2, 0, 0, 0,
    0, 0, 0, 0, 0, 0, 0, 0,
    44, 1, 0, 0, 0, 0, 0, 0,
    0, 0, 0, 0, 0, 1, 0, 0,
    44, 1, 0, 0, 0, 0, 1, 0,
    0, 0, 0, 0, 112, 17, 1, 0,
    44, 1, 0, 0, 112, 17, 1, 0,
    0, 0, 1, 0,
    0, 0, 2, 0,
    1, 0, 3, 0,
    2, 0, 3, 0,
    2, 0, 4, 0,
    3, 0, 5, 0,
    4, 0, 5, 0,
    43, 1, 0, 0, 1, 1, 0, 0, 3, 2, 255, 255,
    1, 0, 0, 0, 48, 117, 0, 0, 4, 0, 0, 1,
]
LONG_CALLS = (bare(300, 70000, 1, 30000, 4, 256), lead([(0, 256), (300, 65536)], 299, 257, 515, 65535))


class Count(unittest.TestCase):
    def test_a_new_record(self):
        self.assertEqual(told(FIRST, count(0), count(1), count(2)), [[0], [0, 0], [0, 0], [0, 1]])
        self.assertEqual(Table(opened(grid(5, 4))).counts(), [0, 0, 20])

    def test_behind_each_step(self):
        for n in range(WHOLE + 1):
            self.assertEqual(Table(FIRST, *STEPS[:n]).counts(), [n, 0, PANES[n]])

    def test_behind_undos_and_redos(self):
        for undone in range(WHOLE + 1):
            for again in range(undone + 1):
                table = Table(FIRST, *STEPS, *[undo()] * undone, *[redo()] * again)
                done = WHOLE - undone + again
                self.assertEqual(table.counts(), [done, WHOLE - done, PANES[done]])

    def test_behind_an_undo_and_another_step(self):
        table = Table(FIRST, *STEPS, undo(), undo(), undo(), mark(0, 19, 4))
        self.assertEqual(table.counts(), [WHOLE - 2, 0, 3])

    def test_behind_read(self):
        for done in range(WHOLE + 1):
            data = record_saved(CARTOONS[0], STEPS[:done], STEPS[done:])
            self.assertEqual(Table(read(data)).counts(), [done, WHOLE - done, PANES[done]])

    def test_what_is_refused_is_not_counted(self):
        table = Table(FIRST, *STEPS[:3])
        for call in (mark(9, 1, 1), drop(0), lead([(0, 0)], 1, 1), erase(1, 1), move(0, 1, 1)):
            self.assertLess(table.put(call)[0], 0)
            self.assertEqual(table.counts(), [3, 0, 3])

    def test_what_above_2(self):
        for what in (3, 4, 255, 256, 65536, 4294967295, 4294967296, 4294967298, 8589934591):
            self.assertEqual(last_told(FIRST, count(what)), [-1])

    def test_no_record(self):
        for what in (0, 1, 2, 3, 8589934591):
            self.assertEqual(told(count(what)), [[-9]])
            self.assertEqual(told(bare(1, 1, 1, 1), count(what)), [[-5, 2, 4], [-9]])

    def test_nothing_is_changed(self):
        table = Table(FIRST, *STEPS, undo())
        before = table.state()
        for what in (0, 1, 2, 3):
            table.put(count(what))
            self.assertEqual(table.state(), before)


class Plan(unittest.TestCase):
    def test_number_by_number(self):
        self.assertEqual(len(LONG_PLAN), 20 + 48 + 28 + 24)
        self.assertEqual(told(*LONG_CALLS, plan()), [[0], [0], [0, 120] + LONG_PLAN])

    def test_the_frame_alone(self):
        self.assertEqual(told(bare(16, 17, 1, 2, 3, 4), plan())[1], [0, 80] + [
            71, 76, 65, 49, 16, 0, 0, 0, 17, 0, 0, 0, 4, 0, 4, 0, 1, 0, 0, 0,
            0, 0, 0, 0, 0, 0, 0, 0, 16, 0, 0, 0, 0, 0, 0, 0, 0, 0, 0, 0, 17, 0, 0, 0, 16, 0, 0, 0, 17, 0, 0, 0,
            0, 0, 1, 0, 0, 0, 2, 0, 1, 0, 3, 0, 2, 0, 3, 0, 1, 0, 0, 0, 2, 0, 0, 0, 3, 0, 4, 0])

    def test_the_greatest_frame(self):
        side = [255, 255, 15, 0]
        answer = last_told(bare(1048575, 1048575, 1048574, 1048574, 65535, 65535), plan())
        self.assertEqual(answer[2 + 4:2 + 12], side * 2)
        self.assertEqual(answer[2 + 44:2 + 52], side * 2)
        self.assertEqual(answer[2 + 68:], [254, 255, 15, 0] * 2 + [255] * 4)

    def test_behind_each_step(self):
        table = Table(FIRST)
        for n, step in enumerate(STEPS):
            self.assertEqual(table.put(plan()), [0, len(CARTOONS[n])] + CARTOONS[n])
            self.assertEqual(table.put(step), [0])
        self.assertEqual(table.put(plan()), [0, len(CARTOONS[-1])] + CARTOONS[-1])

    def test_behind_undo_and_redo(self):
        rows = told(FIRST, *STEPS, undo(), plan(), undo(), plan(), redo(), plan(), redo(), plan())
        expected = [CARTOONS[WHOLE + way] for way in (-1, -2, -1, 0)]
        self.assertEqual(rows[-7::2], [[0, len(data)] + data for data in expected])

    def test_a_cartoon_that_was_opened(self):
        for data in (*CARTOONS, LONG_PLAN, grid(14, 12)):
            self.assertEqual(told(opened(data), plan()), [[0], [0, len(data)] + data])

    def test_numbers_above_255_of_points(self):
        data = grid(19, 17)
        self.assertEqual(Table(read(record_saved(data))).held(), data)

    def test_no_record(self):
        self.assertEqual(told(plan(), bare(3, 3, 1, 1), plan()), [[-9], [-5, 2, 4], [-9]])

    def test_nothing_is_changed(self):
        calls = (FIRST, *STEPS, undo())
        self.assertEqual(Table(*calls, plan(), plan()).state(), Table(*calls).state())


# What is saved behind LONG_CALLS and the steps below, byte by byte.
LONG_FIRST = [
    71, 76, 65, 49, 44, 1, 0, 0, 112, 17, 1, 0, 4, 0, 4, 0, 1, 0, 0, 0,
    0, 0, 0, 0, 0, 0, 0, 0, 44, 1, 0, 0, 0, 0, 0, 0, 0, 0, 0, 0, 112, 17, 1, 0, 44, 1, 0, 0, 112, 17, 1, 0,
    0, 0, 1, 0, 0, 0, 2, 0, 1, 0, 3, 0, 2, 0, 3, 0,
    1, 0, 0, 0, 48, 117, 0, 0, 4, 0, 0, 1,
]
LONG_STEPS = (
    (LONG_CALLS[1],
     [0, 2, 0, 0, 0, 0, 0, 1, 0, 0, 44, 1, 0, 0, 0, 0, 1, 0, 43, 1, 0, 0, 1, 1, 0, 0, 3, 2, 255, 255]),
    (move(2, 0, 255), [2, 2, 0, 0, 0, 0, 0, 255, 0, 0, 0]),
    (lead([(0, 70000), (150, 69990), (300, 69990)], 299, 69995, 1, 513),
     [0, 3, 0, 0, 0, 0, 112, 17, 1, 0, 150, 0, 0, 0, 102, 17, 1, 0, 44, 1, 0, 0, 102, 17, 1, 0,
      43, 1, 0, 0, 107, 17, 1, 0, 1, 0, 1, 2]),
    (mark(2, 299, 69998, 65535, 255), [3, 2, 0, 43, 1, 0, 0, 110, 17, 1, 0, 255, 255, 255, 0]),
    (erase(1, 0), [1, 1, 0, 0, 0]),
    (drop(2), [4, 2, 0]),
)


class Save(unittest.TestCase):
    def test_without_steps(self):
        self.assertEqual(told(LONG_CALLS[0], save())[1],
                         [0, 96] + [71, 76, 65, 72, 80, 0, 0, 0, 0, 0, 0, 0, 0, 0, 0, 0] + LONG_FIRST)

    def test_number_by_number(self):
        calls = [call for call, data in LONG_STEPS]
        steps = [byte for call, data in LONG_STEPS for byte in data]
        for undone in range(7):
            head = [71, 76, 65, 72, 80, 0, 0, 0, 6 - undone, 0, 0, 0, undone, 0, 0, 0]
            rows = told(LONG_CALLS[0], *calls, *[undo()] * undone, save())
            self.assertEqual(rows[:-1], [[0]] * 7 + [[0, 1]] * undone)
            self.assertEqual(rows[-1], [0, 96 + len(steps)] + head + LONG_FIRST + steps)

    def test_behind_each_step(self):
        for n in range(WHOLE + 1):
            self.assertEqual(Table(FIRST, *STEPS[:n]).saved(), record_saved(CARTOONS[0], STEPS[:n]))

    def test_steps_that_were_undone_stand_as_redo_does_them(self):
        table = Table(FIRST, *STEPS)
        for n in range(WHOLE - 1, -1, -1):
            self.assertEqual(table.put(undo()), [0, 1])
            self.assertEqual(table.saved(), record_saved(CARTOONS[0], STEPS[:n], STEPS[n:]))
        for n in range(1, WHOLE + 1):
            self.assertEqual(table.put(redo()), [0, 1])
            self.assertEqual(table.saved(), record_saved(CARTOONS[0], STEPS[:n], STEPS[n:]))

    def test_what_is_refused_is_not_saved(self):
        table = Table(FIRST, *STEPS[:2])
        for call in (mark(9, 1, 1), drop(0), lead([(0, 0)], 1, 1), erase(1, 1), move(0, 1, 1)):
            self.assertLess(table.put(call)[0], 0)
        self.assertEqual(table.saved(), record_saved(CARTOONS[0], STEPS[:2]))

    def test_a_lead_is_saved_as_it_was_told(self):
        # From the right to the left; and with a line that is told three times.
        for row in ([(30, 9), (20, 9), (0, 20)], [(30, 9), (20, 9), (30, 9), (20, 9), (0, 20)]):
            call = lead(row, 28, 18, 7, 8)
            self.assertEqual(Table(FIRST, call).saved(), record_saved(CARTOONS[0], (call,)))

    def test_a_cartoon_that_was_opened(self):
        data = grid(5, 5)
        self.assertEqual(told(opened(data), save()), [[0], [0, 16 + len(data)] + record_saved(data)])

    def test_more_than_255_steps(self):
        calls = [mark(0, 1 + n % 29, 1 + n % 19, n) for n in range(600)]
        for undone in (0, 300, 600):
            table = Table(FIRST, *calls, *[undo()] * undone)
            self.assertEqual(table.saved(), record_saved(CARTOONS[0], calls[:600 - undone], calls[600 - undone:]))

    def test_no_record(self):
        self.assertEqual(told(save(), bare(3, 3, 1, 1), save()), [[-9], [-5, 2, 4], [-9]])

    def test_nothing_is_changed(self):
        calls = (FIRST, *STEPS, undo())
        self.assertEqual(Table(*calls, save(), save()).state(), Table(*calls).state())


if __name__ == "__main__":
    unittest.main()
