"""The promises, on ordinary records and on records by chance."""

import random
import unittest

from tests import chance as chances
from tests import oracle
from tests.records import CARTOONS, FIRST, STEPS, WHOLE
from tests.stepping import ABOVE_LENGTH, SPLIT
from tests.tools import (
    Table, bare, count, drop, erase, grid, lead, mark, move, opened, plan, read, record_saved, redo, save, told, undo)

LEADS = (
    lead([(0, 5), (30, 5)], 15, 2),
    lead([(0, 0), (10, 10), (30, 0)], 15, 3),
    lead([(7, 0), (7, 20)], 3, 3),
    lead([(7, 20), (3, 12), (0, 12)], 1, 15),
    lead([(0, 20), (30, 0)], 4, 4),
    lead([(10, 20), (12, 9), (18, 9), (20, 20)], 15, 10),
)


def area(row):
    return oracle.doubled_area(row)


class Five(unittest.TestCase):
    def lead_holds(self, before, behind):
        old, new = oracle.panes_by_mark(before), oracle.panes_by_mark(behind)
        added = [one for one in new if one not in old]
        self.assertEqual(len(new), len(old) + 1)
        self.assertEqual(len(added), 1)
        parts = [one for one in old if area(old[one]) != area(new[one])]
        self.assertEqual(len(parts), 1)
        self.assertEqual(area(new[parts[0]]) + area(new[added[0]]), area(old[parts[0]]))
        for one in old:
            if one != parts[0]:
                self.same_pane(old[one], new[one])

    def erase_holds(self, before, behind, i, j):
        old, new = oracle.panes_by_mark(before), oracle.panes_by_mark(behind)
        marks = oracle.Told(before).marks
        self.assertEqual(len(new), len(old) - 1)
        self.assertNotIn(marks[j], new)
        self.assertEqual(area(new[marks[i]]), area(old[marks[i]]) + area(old[marks[j]]))
        for n, one in enumerate(marks):
            if n not in (i, j):
                self.same_pane(old[one], new[one])

    def same_pane(self, one, other):
        """The same but for points at which the outline goes straight on."""
        self.assertEqual(area(one), area(other))
        self.assertEqual(bends(one), bends(other))

    def test_leads_on_ordinary_cartoons(self):
        for begun in ((bare(30, 20, 15, 15),), SPLIT):
            held = 0
            for call in LEADS:
                table = Table(*begun)
                before = table.held()
                if table.put(call) == [0]:
                    held += 1
                    self.lead_holds(before, table.held())
            self.assertGreater(held, 1)

    def test_erase_on_ordinary_cartoons(self):
        begun = (bare(30, 20, 15, 15), LEADS[0], lead([(10, 5), (12, 9), (20, 20)], 25, 15),
                 lead([(0, 5), (12, 0)], 1, 1))
        held = 0
        for i in range(4):
            for j in range(4):
                table = Table(*begun)
                before = table.held()
                if table.put(erase(i, j)) == [0]:
                    held += 1
                    self.erase_holds(before, table.held(), i, j)
        self.assertGreater(held, 5)

    def test_by_chance(self):
        chance = random.Random(5)
        kinds = {3: 0, 4: 0}
        for n in range(12):
            table = Table(bare(60, 60, 30, 31))
            for k in range(60):
                before = table.held()
                call = chances.some_call(chance, before)
                if table.put(call) != [0]:
                    self.assertEqual(table.held(), before)
                elif call[0] == 3:
                    kinds[3] += 1
                    self.lead_holds(before, table.held())
                elif call[0] == 4:
                    kinds[4] += 1
                    self.erase_holds(before, table.held(), call[1], call[2])
        self.assertGreater(min(kinds.values()), 10)


def bends(row):
    return [point for i, point in enumerate(row) if oracle.turn(row[i - 1], point, row[(i + 1) % len(row)]) != 0]


def by_chance(seed, calls):
    """Calls by chance, put on one table: behind each the table, the call, the state before it, the answer."""
    chance = random.Random(seed)
    table, saves = Table(), []
    for n in range(calls):
        call = chances.any_call(chance, table.held(), saves) if n else opened(chances.grown(chance, 4))
        before = table.state()
        answer = table.put(call)
        if call[0] == 12:
            saves.append(answer[2:])
        yield table, call, before, answer


def behind(calls):
    """A table behind these calls, some of which may be refused."""
    table = Table()
    for call in calls:
        table.put(call)
    return table


class One(unittest.TestCase):
    def holds_a_cartoon(self, table):
        data = table.held()
        self.assertIsNone(oracle.judged(data))
        self.assertEqual(told(opened(data), plan()), [[0], [0, len(data)] + data])

    def test_ordinary_records(self):
        table = Table(FIRST)
        for call in STEPS + (undo(),) * 4 + (redo(),) * 2 + (mark(0, 20, 4), read(table.saved()), undo(), undo()):
            table.put(call)
            self.holds_a_cartoon(table)

    def test_by_chance(self):
        for seed in range(4):
            for table, call, before, answer in by_chance(seed, 60):
                self.holds_a_cartoon(table)


class Two(unittest.TestCase):
    def test_ordinary_records(self):
        refused = (
            opened([]), opened(CARTOONS[0][:-1]), bare(15, 20, 1, 1), bare(30, 20, 0, 1), bare(30, 20, 1, ABOVE_LENGTH),
            lead([], 1, 1), lead([(0, 0), (0, 0)], 1, 1), lead([(0, 1), (1, ABOVE_LENGTH)], 1, 1), erase(0, 0),
            erase(0, 99), move(99, 1, 1), move(0, 1, 1), move(0, ABOVE_LENGTH, 1), mark(99, 1, 1), mark(0, 0, 0),
            mark(0, 1, 1, 65536), drop(99), drop(0), count(3), count(ABOVE_LENGTH), read([]), read(CARTOONS[0]),
            read(record_saved(CARTOONS[0], STEPS)[:-1]), read(record_saved(CARTOONS[0], STEPS + (drop(0),))))
        whole = (FIRST,) + STEPS
        for begun in ((), (FIRST,), whole, whole + (undo(), undo()), whole + (undo(),) * WHOLE):
            table = Table(*begun)
            before = table.state()
            for call in refused:
                self.assertLess(table.put(call)[0], 0, call)
                self.assertEqual(table.state(), before, call)
            self.assertEqual(ends_of(table), ends_of(Table(*begun)))

    def test_by_chance(self):
        refused = set()
        for seed in range(4, 12):
            for table, call, before, answer in by_chance(seed, 60):
                if answer[0] < 0:
                    refused.add((call[0], answer[0]))
                if answer[0] < 0 or call[0] in (10, 11, 12) or answer == [0, 0]:
                    self.assertEqual(table.state(), before, call)
        self.assertGreater(len(refused), 9)


def ends_of(table):
    """The states that undo leads to, then those that redo leads to; none where there's no record."""
    states = []
    for call in (undo(), redo()):
        while table.put(call) == [0, 1]:
            states.append(table.state())
    return states


class Three(unittest.TestCase):
    def test_ordinary_records(self):
        table = Table(FIRST)
        for call in STEPS:
            before = table.held()
            self.assertEqual(table.put(call), [0])
            after = table.held()
            for again in range(3):
                self.assertEqual(table.put(undo()), [0, 1])
                self.assertEqual(table.held(), before)
                self.assertEqual(table.put(redo()), [0, 1])
                self.assertEqual(table.held(), after)
        while table.put(undo()) == [0, 1]:
            pass
        self.assertEqual(table.held(), CARTOONS[0])

    def test_by_chance(self):
        taken = 0
        for seed in range(12, 18):
            first = None
            for table, call, before, answer in by_chance(seed, 60):
                if call[0] in range(3, 8) and answer == [0]:
                    taken += 1
                    self.goes_back(table, before)
                if call[0] in (1, 2) and answer == [0]:
                    first = table.held()
                if call[0] == 13 and answer == [0]:
                    first = None
                if first is not None:
                    self.first_is(table, first)
        self.assertGreater(taken, 40)

    def goes_back(self, table, before):
        after = table.state()
        self.assertEqual(table.put(undo()), [0, 1])
        self.assertEqual(table.put(plan()), before[0])
        self.assertEqual(table.put(redo()), [0, 1])
        self.assertEqual(table.state(), after)

    def first_is(self, table, first):
        other = Table(read(table.saved()))
        while other.put(undo()) == [0, 1]:
            pass
        self.assertEqual(other.held(), first)


class Four(unittest.TestCase):
    def same_record(self, begun, calls):
        """Does what's saved and read, by a new record, another one and its own, answer calls alike."""
        table = behind(begun)
        readers = [Table(), Table(opened(grid(3, 3)), mark(0, 4, 4)), behind(begun)]
        for other in readers:
            self.assertEqual(other.put(read(table.saved())), [0])
        for call in calls:
            answer = table.put(call)
            for other in readers:
                self.assertEqual(other.put(call), answer, call)
                self.assertEqual(other.state(), table.state(), call)

    def test_ordinary_records(self):
        calls = (redo(), undo(), undo(), mark(0, 19, 4), drop(0), move(1, 11, 0), count(0), count(1), count(2),
                 count(3), redo(), plan(), save(), erase(0, 1), lead([(0, 1), (30, 1)], 29, 19), undo(), undo(),
                 undo(), redo(), mark(99, 1, 1), save()) + (undo(),) * 9 + (redo(),) * 9
        for steps in range(WHOLE + 1):
            for undone in range(steps + 1):
                self.same_record((FIRST, *STEPS[:steps], *[undo()] * undone), calls)

    def test_by_chance(self):
        for seed in range(18, 26):
            rows = list(by_chance(seed, 60))
            begun = [call for table, call, before, answer in rows]
            chance, other = random.Random(seed), behind(begun)
            calls = []
            for n in range(30):
                calls.append(chances.any_call(chance, other.held(), [other.saved()]))
                other.put(calls[-1])
            self.same_record(begun, calls)


class Six(unittest.TestCase):
    MOST = 16 + 90132 + 65536 * 526

    def test_the_greatest_cartoon(self):
        self.assertEqual(20 + 8 * 4096 + 4 * 8192 + 12 * 2048, 90132)

    def test_a_lead_of_64_points_has_526_bytes(self):
        row = [(10 * x, 30 + 10 * (x % 2)) for x in range(64)]
        table = Table(bare(630, 100, 5, 5))
        empty = len(table.saved())
        self.assertEqual(empty, 16 + 80)
        self.assertEqual(table.put(lead(row, 5, 95)), [0])
        self.assertEqual(len(table.saved()), empty + 526)
        self.assertEqual(table.put(undo()), [0, 1])
        self.assertEqual(len(table.saved()), empty + 526)

    def test_each_step_s_bytes(self):
        table = Table(FIRST)
        for call in STEPS:
            before = len(table.saved())
            table.put(call)
            size = {3: 14 + 8 * (call[5] // 2 if call[0] == 3 else 0), 4: 5, 5: 11, 6: 15, 7: 3}[call[0]]
            self.assertEqual(len(table.saved()), before + size)
            self.assertLessEqual(size, 526)

    def test_by_chance(self):
        for seed in range(24, 28):
            for table, call, before, answer in by_chance(seed, 60):
                steps = sum(table.counts()[:2])
                self.assertLessEqual(len(table.saved()), 16 + 90132 + 526 * steps)
                self.assertLessEqual(len(table.saved()), self.MOST)


if __name__ == "__main__":
    unittest.main()
