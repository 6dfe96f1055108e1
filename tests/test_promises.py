"""The promises, on ordinary cartoons; and how many steps a record may have."""

import random
import unittest

from glassrecord.record import Record
from tests import chance as chances
from tests import oracle
from tests.stepping import SPLIT
from tests.tools import Table, bare, bytes_held, drop, erase, lead, mark, move

LEADS = (
    lead([(0, 5), (30, 5)], 15, 2),
    lead([(0, 0), (10, 10), (30, 0)], 15, 3),
    lead([(7, 0), (7, 20)], 3, 3),
    lead([(7, 20), (3, 12), (0, 12)], 1, 15),
    lead([(0, 20), (30, 0)], 4, 4),
    lead([(10, 20), (12, 9), (18, 9), (20, 20)], 15, 10),
)


def saved_size(record):
    """How many bytes the document's table asks for to save this record."""
    sizes = {0: lambda step: 1 + 1 + 8 * len(step[1]) + 12, 1: lambda step: 1 + 2 + 2, 2: lambda step: 1 + 2 + 8,
             3: lambda step: 1 + 2 + 12, 4: lambda step: 1 + 2}
    return 16 + len(bytes_held(record.first)) + sum(sizes[step[0]](step) for step in record.steps_done)


def area(row):
    return oracle.doubled_area(row)


class Five(unittest.TestCase):
    def lead_holds(self, before, behind):
        old, new = oracle.panes_by_mark(before), oracle.panes_by_mark(behind)
        added = [one for one in new if one not in old]
        self.assertEqual(len(new), len(old) + 1)
        self.assertEqual(len(added), 1)
        parts = [one for one in old if area(old[one]) != area(new[one])]
        self.assertEqual(len(parts), 1)
        self.assertEqual(area(new[parts[0]]) + area(new[added[0]]), area(old[parts[0]]))
        for one in old:
            if one != parts[0]:
                self.same_pane(old[one], new[one])

    def erase_holds(self, before, behind, i, j):
        old, new = oracle.panes_by_mark(before), oracle.panes_by_mark(behind)
        marks = oracle.Told(before).marks
        self.assertEqual(len(new), len(old) - 1)
        self.assertNotIn(marks[j], new)
        self.assertEqual(area(new[marks[i]]), area(old[marks[i]]) + area(old[marks[j]]))
        for n, one in enumerate(marks):
            if n not in (i, j):
                self.same_pane(old[one], new[one])

    def same_pane(self, one, other):
        """The same but for points at which the outline goes straight on."""
        self.assertEqual(area(one), area(other))
        self.assertEqual(bends(one), bends(other))

    def test_leads_on_ordinary_cartoons(self):
        for begun in ((bare(30, 20, 15, 15),), SPLIT):
            held = 0
            for call in LEADS:
                table = Table(*begun)
                before = table.held()
                if table.put(call) == [0]:
                    held += 1
                    self.lead_holds(before, table.held())
            self.assertGreater(held, 1)

    def test_erase_on_ordinary_cartoons(self):
        begun = (bare(30, 20, 15, 15), LEADS[0], lead([(10, 5), (12, 9), (20, 20)], 25, 15),
                 lead([(0, 5), (12, 0)], 1, 1))
        held = 0
        for i in range(4):
            for j in range(4):
                table = Table(*begun)
                before = table.held()
                if table.put(erase(i, j)) == [0]:
                    held += 1
                    self.erase_holds(before, table.held(), i, j)
        self.assertGreater(held, 5)

    def test_by_chance(self):
        chance = random.Random(5)
        kinds = {3: 0, 4: 0}
        for n in range(12):
            table = Table(bare(60, 60, 30, 31))
            for k in range(60):
                before = table.held()
                call = chances.some_call(chance, before)
                if table.put(call) != [0]:
                    self.assertEqual(table.held(), before)
                elif call[0] == 3:
                    kinds[3] += 1
                    self.lead_holds(before, table.held())
                elif call[0] == 4:
                    kinds[4] += 1
                    self.erase_holds(before, table.held(), call[1], call[2])
        self.assertGreater(min(kinds.values()), 10)


def bends(row):
    return [point for i, point in enumerate(row) if oracle.turn(row[i - 1], point, row[(i + 1) % len(row)]) != 0]


class Steps(unittest.TestCase):
    FULL = 65536

    def full(self, count):
        """A table whose record has this many steps, all the same."""
        table = Table(*SPLIT)
        record = table.desk.record
        record.steps_done = [(3, 0, (10, 5, 0, 0))] * count
        return table

    def test_the_last_that_fits(self):
        table = self.full(self.FULL - 1)
        self.assertEqual(table.put(mark(0, 5, 11)), [0])
        self.assertEqual(table.put(mark(0, 5, 12)), [-3])
        self.assertEqual(len(table.desk.record.steps_done), self.FULL)
        self.assertEqual(table.marks(), [(5, 11), (20, 15)])

    def test_each_step_is_refused(self):
        calls = (lead([(0, 5), (10, 5)], 5, 2), erase(0, 1), move(1, 9, 0), mark(0, 5, 11))
        for call in calls:
            table = self.full(self.FULL)
            held = table.held()
            self.assertEqual(table.put(call), [-3])
            self.assertEqual(table.held(), held)
        table = Table(*SPLIT, erase(0, 1))
        table.desk.record.steps_done = [(4, 1)] * self.FULL
        self.assertEqual(table.put(drop(1)), [-3])

    def test_looked_at_last(self):
        table = self.full(self.FULL)
        self.assertEqual(table.put(mark(0, 5, 4294967296)), [-1])
        self.assertEqual(table.put(mark(2, 5, 11)), [-2])
        self.assertEqual(table.put(mark(0, 0, 11)), [-5, 11, 20 + 48 + 28])

    def test_another_beginning_has_no_steps(self):
        table = self.full(self.FULL)
        self.assertEqual(table.put(bare(30, 20, 5, 5)), [0])
        self.assertEqual(table.put(mark(0, 5, 11)), [0])


class Six(unittest.TestCase):
    MOST = 16 + 90132 + 65536 * 526

    def test_the_greatest_cartoon(self):
        self.assertEqual(20 + 8 * 4096 + 4 * 8192 + 12 * 2048, 90132)

    def test_a_record_of_the_greatest_steps(self):
        table = Table(bare(630, 100, 5, 5))
        row = [(10 * x, 30 + 10 * (x % 2)) for x in range(64)]
        self.assertEqual(table.put(lead(row, 5, 95)), [0])
        record = table.desk.record
        self.assertEqual(saved_size(record), 16 + 20 + 32 + 16 + 12 + 526)
        record.steps_done = record.steps_done * 65536
        self.assertLessEqual(saved_size(record), self.MOST)
        self.assertEqual(table.put(mark(0, 6, 5)), [-3])

    def test_the_steps_are_kept_as_they_were_told(self):
        table = Table(*SPLIT, lead([(10, 10), (30, 10)], 20, 5, 1, 2), move(3, 10, 11), mark(1, 4, 10, 8, 9),
                      erase(0, 2), drop(4))
        self.assertEqual(table.desk.record.steps_done, [
            (0, [(0, 10), (20, 10)], (15, 20, 0, 0)),
            (0, [(10, 10), (10, 30)], (5, 20, 1, 2)),
            (2, 3, (11, 10)),
            (3, 1, (10, 4, 8, 9)),
            (1, 0, 2),
            (4, 4),
        ])
        self.assertEqual(bytes_held(table.desk.record.first), Table(SPLIT[0]).held())

    def test_done_again_from_the_first_they_lead_to_the_same(self):
        chance = random.Random(6)
        table = Table(bare(60, 60, 30, 31))
        for k in range(150):
            call = chances.some_call(chance, table.held())
            if call[0] != 2:
                table.put(call)
        record = table.desk.record
        again = Record(record.first)
        for step in record.steps_done:
            self.assertEqual(again.take(step), [0])
        self.assertEqual(bytes_held(again.cartoon), table.held())


if __name__ == "__main__":
    unittest.main()
