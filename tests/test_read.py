"""read: records that are taken, and for each rule of records bytes that break it, with the place."""

import unittest

from tests.records import CARTOONS, FIRST, STEPS, WHOLE
from tests.tools import (
    Table, cartoon_bytes, drop, erase, grid, in_bytes, last_told, lead, mark, move, number_at, opened, read,
    record_saved, redo, save, step_saved, told, undo)

FRAME = CARTOONS[0]
STEPS_AT = 16 + len(FRAME)
SAVED = record_saved(FRAME, STEPS[:4], STEPS[4:])


def place_of(number, steps=STEPS):
    """Where the kind of a step stands in a saved record that begins with the frame."""
    return STEPS_AT + sum(len(step_saved(step)) for step in steps[:number])


def changed(data, at, values):
    return data[:at] + values + data[at + len(values):]


def counted(data, done, undone):
    return changed(data, 8, in_bytes((done, 4), (undone, 4)))


def sized(data, size):
    return changed(data, 4, in_bytes((size, 4)))


class Reading(unittest.TestCase):
    def taken(self, data):
        table = Table()
        self.assertEqual(table.put(read(data)), [0])
        return table

    def refused(self, data, rule, place):
        """By a desk without a record, and by one whose record is then as it was."""
        self.assertEqual(told(read(data), save()), [[-5, rule, place], [-9]])
        table = Table(FIRST, *STEPS, undo(), undo())
        before = table.state()
        self.assertEqual(table.put(read(data)), [-5, rule, place])
        self.assertEqual(table.state(), before)
        self.assertEqual([table.put(redo()) for n in range(3)], [[0, 1], [0, 1], [0, 0]])


class Taken(Reading):
    def test_what_save_told(self):
        for steps in range(WHOLE + 1):
            for undone in range(steps + 1):
                calls = (FIRST, *STEPS[:steps], *[undo()] * undone)
                table = Table(*calls)
                other = self.taken(table.saved())
                self.assertEqual(other.state(), table.state())
                self.assertEqual(table.put(read(table.saved())), [0])
                self.assertEqual(table.state(), other.state())

    def test_its_cartoons_are_there_again(self):
        for undone in (0, 3, WHOLE):
            table = self.taken(record_saved(FRAME, STEPS[:WHOLE - undone], STEPS[WHOLE - undone:]))
            self.assertEqual(table.held(), CARTOONS[WHOLE - undone])
            for n in range(WHOLE - undone + 1, WHOLE + 1):
                self.assertEqual(table.put(redo()), [0, 1])
                self.assertEqual(table.held(), CARTOONS[n])
            self.assertEqual(table.put(redo()), [0, 0])
            for n in range(WHOLE - 1, -1, -1):
                self.assertEqual(table.put(undo()), [0, 1])
                self.assertEqual(table.held(), CARTOONS[n])
            self.assertEqual(table.put(undo()), [0, 0])

    def test_a_step_behind_it_forgets_what_was_undone(self):
        table = self.taken(SAVED)
        self.assertEqual(table.put(mark(0, 19, 4)), [0])
        self.assertEqual(table.saved(), record_saved(FRAME, STEPS[:4] + (mark(0, 19, 4),)))

    def test_each_kind_of_step_alone(self):
        begun = Table(FIRST, *STEPS[:3]).held()
        for call in (lead([(0, 3), (10, 3)], 1, 1), erase(0, 2), move(5, 14, 13), mark(0, 20, 4), drop(5)):
            for done, undone in (((call,), ()), ((), (call,))):
                data = record_saved(begun, done, undone)
                table = self.taken(data)
                self.assertEqual(table.saved(), data)
                self.assertEqual(table.counts()[:2], [len(done), len(undone)])
                self.assertEqual(table.held() == begun, not done)
                self.assertEqual(table.held(), Table(opened(begun), *done).held())

    def test_a_record_without_steps(self):
        table = self.taken(record_saved(grid(4, 5)))
        self.assertEqual(table.held(), grid(4, 5))
        self.assertEqual(table.counts(), [0, 0, 20])

    def test_a_first_cartoon_of_many_points(self):
        data = record_saved(grid(19, 17), [mark(0, 4, 4)], [mark(5, 51, 4)])
        table = self.taken(data)
        self.assertEqual(table.saved(), data)
        self.assertEqual(told(read(data), save()), [[0], [0, len(data)] + data])

    def test_numbers_above_255_of_points_and_panes(self):
        # Mark 260 is (135, 135), mark 261 the next one to the right; point 261 is (10, 130).
        first = grid(19, 17)
        for call in (mark(260, 136, 135, 5), erase(260, 261), move(261, 11, 131)):
            data = record_saved(first, [call])
            table = self.taken(data)
            self.assertEqual(table.saved(), data)
            self.assertEqual(table.held(), Table(read(record_saved(first)), call).held())
        table = Table(read(record_saved(first, [mark(260, 136, 135, 5), erase(260, 261), move(261, 11, 131)])))
        self.assertIn((136, 135, 5, 0), table.full_marks())
        self.assertNotIn((145, 135), table.marks())
        self.assertIn((11, 131), table.points())

    def test_leads_of_2_and_of_64_points(self):
        row = [(10 * x, 30 + 10 * (x % 2)) for x in range(64)]
        first = Table([2, 630, 100, 5, 5, 0, 0]).held()
        data = record_saved(first, [lead(row, 5, 95)], [lead([(0, 20), (630, 20)], 1, 21)])
        self.assertEqual(data[16 + len(first) + 1], 64)
        self.assertEqual(self.taken(data).saved(), data)

    def test_the_record_is_another_one(self):
        for begun in ((), (FIRST,), (FIRST, *STEPS), (FIRST, *STEPS, undo()), (read(record_saved(grid(3, 3))),)):
            table = Table(*begun)
            self.assertEqual(table.put(read(SAVED)), [0])
            self.assertEqual(table.saved(), SAVED)

    def test_the_bytes_told_behind_it_do_not_hang_on_those_handed_in(self):
        data = list(SAVED)
        table = self.taken(data)
        data[20:] = [0] * (len(data) - 20)
        self.assertEqual(table.saved(), SAVED)


class RuleOne(Reading):
    def test_fewer_than_16_bytes(self):
        for count in range(16):
            self.refused(SAVED[:count], 1, count)

    def test_fewer_bytes_that_begin_otherwise(self):
        self.refused([0] * 15, 1, 15)
        self.refused([], 1, 0)

    def test_the_first_four(self):
        for at in range(4):
            for value in (0, 255, SAVED[at] ^ 1):
                self.refused(changed(SAVED, at, [value]), 1, 0)

    def test_a_cartoon_is_no_record(self):
        self.refused(FRAME, 1, 0)
        self.assertEqual(told(opened(SAVED)), [[-5, 1, 0]])

    def test_16_bytes_are_enough(self):
        self.refused(SAVED[:4] + [0] * 12, 4, 16)
        self.refused(SAVED[:16], 3, 16)


class RuleTwo(Reading):
    def test_more_than_65536_steps(self):
        most = 4294967295
        for done, undone in ((65537, 0), (0, 65537), (65536, 1), (1, 65536), (32769, 32768), (16777216, 0),
                             (0, 16777216), (most, 0), (0, most), (most, 1), (1, most), (most, 65537), (most, most), (2147483648, 2147483648)):
            self.refused(counted(SAVED, done, undone), 2, 8)

    def test_just_65536_are_not_too_many(self):
        for done, undone in ((65536, 0), (0, 65536), (32768, 32768), (65535, 1)):
            self.refused(counted(SAVED, done, undone), 6, len(SAVED))


class RuleThree(Reading):
    def test_bytes_cut_off(self):
        for count in range(16, STEPS_AT):
            self.refused(SAVED[:count], 3, count)

    def test_a_size_that_is_too_great(self):
        for size in (len(SAVED) - 15, len(SAVED), 65536 + len(FRAME), 16777216 + len(FRAME), 4294967295):
            self.refused(sized(SAVED, size), 3, len(SAVED))

    def test_a_size_that_just_fits(self):
        self.refused(sized(SAVED, len(SAVED) - 16), 4, 16 + 20)


def first_of(points, lines, marks):
    return cartoon_bytes(30, 20, points, lines, marks)


FRAME_POINTS = [(0, 0), (30, 0), (0, 20), (30, 20)]
FRAME_LINES = [(0, 1), (0, 2), (1, 3), (2, 3)]
SPIKE_POINTS = [(0, 0), (30, 0), (10, 10), (0, 20), (30, 20)]
SPIKE_LINES = [(0, 1), (0, 3), (1, 4), (3, 4)]
TWO_MARKS = [(15, 2, 0, 0), (15, 15, 0, 0)]


class RuleFour(Reading):
    def first_refused(self, first, place):
        self.refused(record_saved(first), 4, 16 + place)
        self.refused(record_saved(first, STEPS[:2], STEPS[2:]), 4, 16 + place)

    def test_a_first_cartoon_of_few_bytes(self):
        for size in range(20):
            self.first_refused(FRAME[:size], size)

    def test_the_size_told_is_the_cartoon_s(self):
        self.refused(sized(SAVED, len(FRAME) - 1), 4, 16 + 20)
        self.refused(sized(SAVED, len(FRAME) + 1), 4, 16 + 20)
        self.refused(sized(SAVED, 19), 4, 16 + 19)
        self.refused(sized(SAVED, 0), 4, 16)

    def test_rules_1_to_3_of_cartoons(self):
        self.first_refused(changed(FRAME, 3, [72]), 0)
        for at, value in ((4, 15), (8, 15), (12, 3), (14, 3), (16, 0), (18, 1)):
            self.first_refused(changed(FRAME, at, [value]), at)
        self.first_refused(FRAME + [0], 20)
        self.first_refused(FRAME[:-1], 20)

    def test_rules_4_to_6_of_cartoons(self):
        self.first_refused(first_of(FRAME_POINTS[:3] + [(31, 20)], FRAME_LINES, TWO_MARKS[:1]), 20 + 24)
        self.first_refused(first_of(FRAME_POINTS, FRAME_LINES[:3] + [(3, 2)], TWO_MARKS[:1]), 20 + 32 + 12)
        self.first_refused(first_of(FRAME_POINTS, [(0, 1), (0, 2), (0, 3), (1, 3)], TWO_MARKS), 20)

    def test_rules_7_to_10_of_cartoons(self):
        lines = SPIKE_LINES[:1] + [(0, 2)] + SPIKE_LINES[1:]
        crossed = sorted(FRAME_LINES + [(0, 3), (1, 2)])
        self.first_refused(first_of(FRAME_POINTS, crossed, TWO_MARKS), 20 + 32 + 4 * crossed.index((1, 2)))
        self.first_refused(first_of(SPIKE_POINTS, lines, TWO_MARKS), 20 + 16)
        ring = [(0, 0), (30, 0), (5, 5), (9, 5), (7, 9), (0, 20), (30, 20)]
        joins = [(0, 1), (0, 5), (1, 6), (2, 3), (2, 4), (3, 4), (5, 6)]
        self.first_refused(first_of(ring, joins, [(7, 6, 0, 0), (15, 15, 0, 0)]), 20 + 16)
        self.first_refused(first_of(ring, sorted(joins + [(0, 2)]), [(7, 6, 0, 0), (15, 15, 0, 0)]), 20)

    def test_rules_11_to_13_of_cartoons(self):
        lines = sorted(SPIKE_LINES + [(0, 2), (1, 2)])
        marks_at = 20 + 40 + 24
        self.first_refused(first_of(SPIKE_POINTS, lines, [TWO_MARKS[0], (15, 20, 0, 0)]), marks_at + 12)
        self.first_refused(first_of(SPIKE_POINTS, lines, TWO_MARKS + [(15, 16, 0, 0)]), marks_at + 24)
        self.first_refused(first_of(SPIKE_POINTS, lines, TWO_MARKS[:1]), marks_at + 12)


class RuleFive(Reading):
    def test_a_kind_above_4(self):
        for number in range(WHOLE):
            for kind in (5, 6, 7, 71, 128, 255):
                self.refused(changed(SAVED, place_of(number), [kind]), 5, place_of(number))

    def test_a_kind_above_4_as_the_last_byte(self):
        self.refused(SAVED[:place_of(2)] + [5], 5, place_of(2))

    def test_a_lead_s_number(self):
        for number in (0, 1, 6):
            self.assertEqual(SAVED[place_of(number)], 0)
            for points in (0, 1, 65, 66, 128, 255):
                self.refused(changed(SAVED, place_of(number) + 1, [points]), 5, place_of(number) + 1)

    def test_a_lead_s_number_as_the_last_byte(self):
        for points in (0, 1, 65, 255):
            self.refused(SAVED[:place_of(1) + 1] + [points], 5, place_of(1) + 1)
        for points in (2, 64):
            self.refused(SAVED[:place_of(1) + 1] + [points], 6, place_of(1) + 2)

    def test_other_steps_have_no_such_number(self):
        data = record_saved(FRAME, [mark(0, 6, 10)], [mark(0, 5, 10)])
        self.assertEqual(data[STEPS_AT:STEPS_AT + 2], [3, 0])
        self.taken(data)


class RuleSix(Reading):
    def test_bytes_cut_off_at_every_place(self):
        self.taken(SAVED)
        for count in range(STEPS_AT, len(SAVED)):
            self.refused(SAVED[:count], 6, count)

    def test_of_each_kind_the_last_byte_is_missing(self):
        first = Table(FIRST, *STEPS[:3]).held()
        for call in (lead([(0, 3), (10, 3)], 1, 1), erase(0, 2), move(5, 14, 13), mark(0, 20, 4), drop(5)):
            data = record_saved(first, [call])
            self.refused(data[:-1], 6, len(data) - 1)

    def test_fewer_steps_than_are_told(self):
        self.refused(counted(SAVED, 5, 3), 6, len(SAVED))
        self.refused(counted(SAVED, 4, 4), 6, len(SAVED))
        self.refused(counted(record_saved(FRAME), 1, 0), 6, STEPS_AT)
        self.refused(counted(record_saved(FRAME), 0, 1), 6, STEPS_AT)


# By the state in which they are refused, with three of the shared steps done.
NOT_TAKEN = (
    lead([(0, 3), (10, 3)], 5, 5),
    lead([(10, 3), (10, 3)], 5, 5),
    lead([(31, 3), (10, 3)], 5, 5),
    lead([(4294967295, 4294967295), (10, 3)], 4294967295, 5),
    move(0, 1, 1),
    move(5, 14, 4294967295),
    mark(0, 5, 11),
    mark(2, 0, 0),
    drop(0),
)
NO_SUCH_THING = (
    erase(0, 0),
    erase(0, 3),
    erase(3, 0),
    erase(65535, 65535),
    erase(256, 2),
    erase(0, 258),
    move(9, 1, 1),
    move(65535, 1, 1),
    move(261, 14, 13),
    mark(3, 20, 4),
    mark(65535, 20, 4),
    mark(256, 20, 4),
    drop(9),
    drop(4),
    drop(65535),
    drop(261),
)


class RuleSeven(Reading):
    def test_among_the_done(self):
        place = place_of(3)
        for call in NOT_TAKEN + NO_SUCH_THING:
            self.refused(record_saved(FRAME, STEPS[:3] + (call,)), 7, place)
            self.refused(record_saved(FRAME, STEPS[:3] + (call,) + STEPS[3:]), 7, place)
            self.refused(record_saved(FRAME, STEPS[:3] + (call,), STEPS[3:]), 7, place)

    def test_among_the_undone(self):
        place = place_of(3)
        for call in NOT_TAKEN + NO_SUCH_THING:
            self.refused(record_saved(FRAME, STEPS[:3], (call,)), 7, place)
            self.refused(record_saved(FRAME, STEPS[:1], STEPS[1:3] + (call,)), 7, place)
            self.refused(record_saved(FRAME, (), STEPS[:3] + (call,) + STEPS[3:]), 7, place)

    def test_the_undone_are_judged_as_done_behind_the_others(self):
        # Taken behind the steps done, but not at the beginning; and the other way round.
        self.taken(record_saved(FRAME, STEPS[:2], (STEPS[2],)))
        self.refused(record_saved(FRAME, (), (STEPS[2],)), 7, STEPS_AT)
        back = mark(0, 14, 10)
        self.taken(record_saved(FRAME, (), (back,)))
        self.refused(record_saved(FRAME, STEPS[:1], (back,)), 7, place_of(1))

    def test_the_undone_in_the_order_of_redo(self):
        self.taken(record_saved(FRAME, (), STEPS[:2]))
        self.refused(record_saved(FRAME, (), STEPS[1::-1]), 7, STEPS_AT)

    def test_the_first_step_that_is_not_taken(self):
        steps = STEPS[:3] + (drop(0), move(9, 1, 1))
        self.refused(record_saved(FRAME, steps), 7, place_of(3))
        self.refused(record_saved(FRAME, (erase(0, 1),) + steps), 7, STEPS_AT)


class RuleEight(Reading):
    def test_more_bytes_behind(self):
        for more in ([0], [4], [255], [0] * 20, step_saved(mark(0, 20, 4)), list(SAVED)):
            self.refused(SAVED + more, 8, len(SAVED))
            self.refused(record_saved(FRAME) + more, 8, STEPS_AT)

    def test_more_steps_than_are_told(self):
        for number in range(WHOLE):
            self.refused(counted(SAVED, number, 0), 8, place_of(number))
            self.refused(counted(SAVED, 0, number), 8, place_of(number))


class TwoRules(Reading):
    def test_ahead_of_the_steps(self):
        data = counted(changed(SAVED, 0, [0]), 65537, 0)
        self.refused(data, 1, 0)
        data = counted(sized(SAVED, len(SAVED)), 65537, 0)
        self.refused(data, 2, 8)
        self.refused(data[:16], 2, 8)
        self.refused(data[:15], 1, 15)
        data = sized(changed(SAVED, 16, [0]), len(SAVED))
        self.refused(data, 3, len(SAVED))
        data = changed(changed(SAVED, 16, [0]), place_of(0), [9])
        self.refused(data, 4, 16)
        self.refused(changed(record_saved(FRAME[:-12], STEPS), 16 + 16, [0]) + [0], 4, 16 + 16)

    def test_step_by_step_the_earlier_step_counts(self):
        steps = STEPS[:3] + (drop(0),) + STEPS[3:]
        data = record_saved(FRAME, steps)
        behind = place_of(4, steps)
        self.refused(changed(data, behind, [9]), 7, place_of(3))
        self.refused(data[:behind], 7, place_of(3))
        self.refused(data[:-1], 7, place_of(3))
        self.refused(data + [0], 7, place_of(3))
        self.refused(changed(data, place_of(1), [9]), 5, place_of(1))

    def test_in_one_step(self):
        data = record_saved(FRAME, STEPS[:3] + (mark(9, 1, 1),))
        place = place_of(3)
        self.refused(data[:-1], 6, len(data) - 1)
        self.refused(changed(data, place, [5])[:place + 2], 5, place)
        data = record_saved(FRAME, STEPS[:3] + (lead([(0, 3), (10, 3)], 5, 5),))
        self.refused(data[:-1], 6, len(data) - 1)
        self.refused(changed(data, place + 1, [1]), 5, place + 1)
        self.refused(changed(data, place + 1, [65]), 5, place + 1)
        self.refused(changed(data, place + 1, [3]), 6, len(data))

    def test_not_taken_and_more_behind(self):
        self.refused(record_saved(FRAME, (drop(0),)) + [0, 0, 0], 7, STEPS_AT)
        self.refused(counted(SAVED, 3, 0)[:place_of(3)] + [9], 8, place_of(3))


# A pane to the left and one to the right, and a point that may be dropped.
ROOMY = cartoon_bytes(
    30, 20, [(0, 0), (10, 0), (20, 0), (30, 0), (0, 20), (10, 20), (30, 20)],
    [(0, 1), (0, 4), (1, 2), (1, 5), (2, 3), (3, 6), (4, 5), (5, 6)], [(5, 10, 0, 0), (20, 15, 0, 0)])
ON_ROOMY = (lead([(0, 5), (10, 5)], 5, 2), erase(0, 1), move(2, 21, 0), mark(0, 5, 11), drop(2))


class Full(unittest.TestCase):
    """A record with as many steps as there may be; too long for a list of calls."""

    FULL = 65536

    def record(self, done, undone):
        two = step_saved(mark(0, 5, 10, 1)) + step_saved(mark(0, 6, 10, 2))
        return counted(record_saved(ROOMY) + two * (self.FULL // 2), done, undone)

    def test_as_many_steps_as_there_may_be(self):
        table = Table()
        self.assertEqual(table.put(read(self.record(self.FULL, 0))), [0])
        before = table.state()
        for call in ON_ROOMY:
            self.assertEqual(table.put(call), [-3])
        self.assertEqual(table.put(mark(0, 0, 7)), [-5, 11, 20 + 56 + 32])
        self.assertEqual(table.put(mark(2, 7, 7)), [-2])
        self.assertEqual(table.put(mark(0, 7, 4294967296)), [-1])
        self.assertEqual(table.state(), before)
        self.assertEqual(table.saved(), self.record(self.FULL, 0))
        self.assertEqual(table.put(undo()), [0, 1])
        self.assertEqual(table.saved(), self.record(self.FULL - 1, 1))
        self.steps_are_taken_behind_undo(table)

    def steps_are_taken_behind_undo(self, table):
        """What was undone isn't counted, since it's forgotten."""
        for call in ON_ROOMY:
            self.assertEqual(table.counts()[:2], [self.FULL - 1, 1])
            self.assertEqual(table.put(call), [0])
            self.assertEqual(table.counts()[:2], [self.FULL, 0])
            self.assertEqual(table.put(mark(0, 6, 3)), [-3])
            self.assertEqual(table.put(redo()), [0, 0])
            self.assertEqual(table.put(undo()), [0, 1])

    def test_one_step_more_than_there_may_be(self):
        data = counted(self.record(self.FULL, 0) + step_saved(mark(0, 5, 10)), self.FULL, 1)
        self.assertEqual(Table().put(read(data)), [-5, 2, 8])


class SaidLonger(list):
    """Some bytes that are said to be more."""

    def __init__(self, data, size):
        super().__init__(data)
        self.size = size

    def __len__(self):
        return self.size


class TooLong(unittest.TestCase):
    MOST = 67108864

    def test_more_than_67108864_bytes(self):
        for begun in ((), (FIRST, *STEPS, undo())):
            table = Table(*begun)
            before = table.state()
            self.assertEqual(table.desk.answer(13, [], SaidLonger([0] * 20, self.MOST + 1)), [-6])
            self.assertEqual(table.desk.answer(13, [], SaidLonger(SAVED, self.MOST + 1)), [-6])
            self.assertEqual(table.desk.answer(13, [], SaidLonger([0] * 20, self.MOST)), [-5, 1, 0])
            self.assertEqual(table.state(), before)

    def test_the_greatest_row_that_is_handed_in(self):
        data = SAVED + [0] * (29900 - len(SAVED))
        self.assertEqual(last_told(read(data)), [-5, 8, len(SAVED)])
        self.assertEqual(number_at(data, 4, 4), len(FRAME))


if __name__ == "__main__":
    unittest.main()
