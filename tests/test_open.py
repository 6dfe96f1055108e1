"""open: cartoons, and for each rule bytes that break it, with the place."""

import unittest

from glassrecord.desk import Desk
from tests.tools import Table, cartoon_bytes, erase, grid, last_told, low_first, opened, record_saved, told

FRAME_POINTS = [(0, 0), (30, 0), (0, 20), (30, 20)]
FRAME_LINES = [(0, 1), (0, 2), (1, 3), (2, 3)]
FRAME_MARKS = [(15, 2, 5, 0)]

# A frame of 30 by 20 with a lead from (0, 0) by (10, 10) to (30, 0).
POINTS = [(0, 0), (30, 0), (10, 10), (0, 20), (30, 20)]
LINES = [(0, 1), (0, 2), (0, 3), (1, 2), (1, 4), (3, 4)]
MARKS = [(15, 2, 5, 1), (15, 15, 7, 65535)]
LINES_AT = 20 + 8 * 5
MARKS_AT = LINES_AT + 4 * 6


def frame(width=30, height=20):
    points = [(0, 0), (width, 0), (0, height), (width, height)]
    return cartoon_bytes(width, height, points, FRAME_LINES, [(1, 1, 0, 0)])


def sample(points=POINTS, lines=LINES, marks=MARKS):
    return cartoon_bytes(30, 20, points, lines, marks)


def changed(data, at, values):
    return data[:at] + values + data[at + len(values):]


class Opened(unittest.TestCase):
    def taken(self, data):
        self.assertEqual(last_told(opened(data)), [0])

    def refused(self, data, rule, place):
        self.assertEqual(last_told(opened(data)), [-5, rule, place])


class Taken(Opened):
    def test_frame_alone(self):
        self.taken(cartoon_bytes(30, 20, FRAME_POINTS, FRAME_LINES, FRAME_MARKS))

    def test_two_panes(self):
        self.taken(sample())

    def test_the_record_holds_just_these_bytes(self):
        self.assertEqual(Table(opened(sample())).held(), sample())

    def test_what_the_marks_are(self):
        marks = [(15, 2, 258, 65535), (15, 15, 65535, 259)]
        self.assertEqual(Table(opened(sample(marks=marks))).full_marks(), marks)

    def test_a_grid_of_many_points_and_lines(self):
        self.taken(grid(14, 12))
        table = Table(opened(grid(20, 16)))
        self.assertEqual(table.held(), grid(20, 16))
        self.assertEqual(len(table.points()), 21 * 17)

    def test_the_record_has_no_steps(self):
        table = Table(opened(sample()), erase(0, 1), opened(sample()))
        self.assertEqual(table.counts(), [0, 0, 2])
        self.assertEqual(table.saved(), record_saved(sample()))

    def test_points_at_which_the_outline_goes_straight_on(self):
        points = [(0, 0), (12, 0), (30, 0), (0, 20), (30, 20)]
        self.taken(sample(points, [(0, 1), (0, 3), (1, 2), (2, 4), (3, 4)], FRAME_MARKS))

    def test_a_refused_one_leaves_the_record(self):
        table = Table(opened(sample()), erase(0, 1))
        before = table.state()
        self.assertEqual(table.put(opened(sample()[:-1])), [-5, 3, 20])
        self.assertEqual(table.state(), before)

    def test_more_than_131072_bytes(self):
        desk = Desk()
        self.assertEqual(desk.answer(1, [], [0] * 131072), [-5, 1, 0])
        self.assertEqual(desk.answer(1, [], [0] * 131073), [-6])
        self.assertIsNone(desk.record)


class RuleOne(Opened):
    def test_fewer_than_20_bytes(self):
        for count in (0, 1, 4, 19):
            self.refused(sample()[:count], 1, count)

    def test_20_bytes_are_enough(self):
        self.refused(sample()[:20], 3, 20)

    def test_first_four(self):
        for at in range(4):
            self.refused(changed(sample(), at, [sample()[at] ^ 32]), 1, 0)

    def test_both(self):
        self.refused([0, 0, 0], 1, 3)


class RuleTwo(Opened):
    def test_width_and_height(self):
        for value in (0, 15, 1048576, 16777216 + 30, 4294967295):
            self.refused(changed(frame(), 4, low_first(value, 4)), 2, 4)
            self.refused(changed(frame(), 8, low_first(value, 4)), 2, 8)

    def test_widths_and_heights_that_fit(self):
        for value in (16, 17, 65536, 1048575):
            self.taken(frame(value, 20))
            self.taken(frame(30, value))
        self.taken(frame(16, 16))
        self.taken(frame(1048575, 1048575))

    def test_counts(self):
        for at, values in ((12, (0, 3, 4097, 65535)), (14, (0, 3, 8193, 65535)), (16, (0, 2049, 65535))):
            for value in values:
                self.refused(changed(sample(), at, low_first(value, 2)), 2, at)

    def test_counts_that_fit(self):
        for at, values in ((12, (4, 4096)), (14, (4, 8192)), (16, (1, 2048))):
            for value in values:
                self.refused(changed(sample(), at, low_first(value, 2)), 3, 20)

    def test_bytes_18_and_19(self):
        self.refused(changed(sample(), 18, [1]), 2, 18)
        self.refused(changed(sample(), 19, [1]), 2, 18)
        self.refused(changed(sample(), 18, [255, 255]), 2, 18)

    def test_the_least_place(self):
        data = sample()
        for at, size in ((18, 2), (16, 2), (14, 2), (12, 2), (8, 4), (4, 4)):
            data = changed(data, at, [255] * size)
            self.refused(data, 2, at)


class RuleThree(Opened):
    def test_too_few_or_too_many(self):
        self.refused(sample()[:-1], 3, 20)
        self.refused(sample() + [0], 3, 20)
        self.refused(sample()[:40], 3, 20)
        self.refused(sample() + sample(), 3, 20)


class RuleFour(Opened):
    def test_beyond_the_frame(self):
        self.refused(sample([(0, 0), (31, 0)] + POINTS[2:]), 4, 28)
        self.refused(sample(POINTS[:4] + [(30, 21)]), 4, 52)
        self.refused(sample(POINTS[:4] + [(4294967295, 4294967295)]), 4, 52)
        self.refused(sample(POINTS[:4] + [(16777216 + 30, 20)]), 4, 52)
        self.refused(sample(POINTS[:4] + [(30, 16777216 + 20)]), 4, 52)

    def test_not_behind_the_one_before(self):
        self.refused(sample([(30, 0), (0, 0)] + POINTS[2:]), 4, 28)
        self.refused(sample(POINTS[:2] + [(0, 20), (10, 10), (30, 20)]), 4, 44)
        self.refused(sample(POINTS[:3] + [(10, 10), (30, 20)]), 4, 44)

    def test_the_least_place(self):
        self.refused(sample([(0, 0), (31, 0), (10, 10), (10, 10), (30, 20)]), 4, 28)
        self.refused(sample([(30, 0), (0, 0), (10, 10), (0, 20), (31, 20)]), 4, 28)


class RuleFive(Opened):
    def test_first_not_below_second(self):
        self.refused(sample(lines=LINES[:3] + [(2, 1)] + LINES[4:]), 5, LINES_AT + 12)
        self.refused(sample(lines=LINES[:3] + [(1, 1)] + LINES[4:]), 5, LINES_AT + 12)

    def test_second_not_below_how_many_points(self):
        self.refused(sample(lines=LINES[:5] + [(3, 5)]), 5, LINES_AT + 20)
        self.refused(sample(lines=LINES[:5] + [(3, 65535)]), 5, LINES_AT + 20)
        self.refused(sample(lines=LINES[:5] + [(3, 256 + 4)]), 5, LINES_AT + 20)
        self.refused(sample(lines=LINES[:5] + [(256 + 3, 4)]), 5, LINES_AT + 20)

    def test_not_behind_the_one_before(self):
        self.refused(sample(lines=[(0, 1), (0, 3), (0, 2)] + LINES[3:]), 5, LINES_AT + 8)
        self.refused(sample(lines=LINES[:3] + [(0, 3)] + LINES[4:]), 5, LINES_AT + 12)
        self.refused(sample(lines=[(1, 2), (0, 1)] + LINES[2:]), 5, LINES_AT + 4)

    def test_the_least_place(self):
        self.refused(sample(lines=[(0, 1), (2, 0), (0, 3), (1, 1), (1, 4), (3, 9)]), 5, LINES_AT + 4)


class RuleSix(Opened):
    def test_a_corner_that_is_no_point(self):
        for corner in ((0, 0), (30, 0), (0, 20), (30, 20)):
            points = sorted(set(POINTS + [(9, 3)]) - {corner}, key=lambda p: (p[1], p[0]))
            self.refused(sample(points), 6, 20)

    def test_no_point_on_an_edge_at_all(self):
        points = [(5, 5), (10, 5), (5, 10), (10, 10)]
        self.refused(sample(points, FRAME_LINES), 6, 20)

    def test_an_edge_that_no_line_joins(self):
        for gone in ((0, 1), (0, 2), (1, 3), (2, 3)):
            lines = sorted(set(FRAME_LINES + [(0, 3)]) - {gone})
            self.refused(sample(FRAME_POINTS, lines), 6, 20)

    def test_a_line_that_passes_over_a_point_of_the_edge(self):
        for spot in ((9, 0), (0, 9), (30, 9), (9, 20)):
            points = sorted(FRAME_POINTS + [spot], key=lambda p: (p[1], p[0]))
            corners = [points.index(corner) for corner in FRAME_POINTS]
            self.refused(sample(points, sorted((corners[a], corners[b]) for a, b in FRAME_LINES)), 6, 20)


class RuleSeven(Opened):
    def test_a_point_on_a_line(self):
        # (10, 10) stands on (0, 0) (20, 20), and nothing crosses.
        points = [(0, 0), (30, 0), (10, 10), (0, 20), (20, 20), (30, 20)]
        lines = [(0, 1), (0, 3), (0, 4), (1, 2), (1, 5), (3, 4), (4, 5)]
        self.refused(sample(points, lines), 7, 20 + 48 + 8)

    def test_lines_that_cross(self):
        # The two lines from corner to corner: the later one is named.
        lines = [(0, 1), (0, 2), (0, 3), (1, 2), (1, 3), (2, 3)]
        self.refused(sample(FRAME_POINTS, lines), 7, 20 + 32 + 12)

    def test_lines_that_cross_within_the_least_square(self):
        points = [(0, 0), (30, 0), (5, 5), (6, 5), (5, 6), (6, 6), (0, 20), (30, 20)]
        lines = [(0, 1), (0, 2), (0, 6), (1, 3), (1, 7), (2, 5), (3, 4), (4, 6), (5, 7), (6, 7)]
        self.refused(sample(points, lines), 7, 20 + 64 + 24)

    def test_a_line_that_lies_in_another(self):
        points = [(0, 0), (30, 0), (10, 10), (0, 20), (20, 20), (30, 20)]
        lines = [(0, 1), (0, 2), (0, 3), (0, 4), (1, 5), (2, 4), (3, 4), (4, 5)]
        self.refused(sample(points, lines), 7, 20 + 48 + 12)

    def test_two_lines_that_share_a_stretch(self):
        points = [(0, 0), (10, 0), (30, 0), (10, 5), (10, 10), (10, 15), (0, 20), (10, 20), (30, 20)]
        lines = [(0, 1), (0, 6), (1, 2), (1, 4), (2, 8), (3, 5), (4, 7), (6, 7), (7, 8)]
        self.refused(sample(points, lines), 7, 20 + 72 + 12)

    def test_lines_that_only_meet_at_their_ends(self):
        self.taken(sample())

    def test_the_least_place(self):
        # (1, 3) crosses (0, 4) and (2, 5) crosses both: the first of them is named.
        points = [(0, 0), (15, 0), (30, 0), (0, 20), (15, 20), (30, 20)]
        lines = [(0, 1), (0, 3), (0, 4), (1, 2), (1, 3), (2, 3), (2, 5), (3, 4), (4, 5)]
        self.refused(sample(points, lines), 7, 20 + 48 + 16)


class RuleEight(Opened):
    def test_a_point_with_one_line(self):
        points = FRAME_POINTS[:2] + [(10, 10)] + FRAME_POINTS[2:]
        self.refused(sample(points, [(0, 1), (0, 2), (0, 3), (1, 4), (3, 4)]), 8, 36)

    def test_a_point_with_none(self):
        points = FRAME_POINTS[:2] + [(10, 10)] + FRAME_POINTS[2:]
        self.refused(sample(points, [(0, 1), (0, 3), (1, 4), (3, 4)]), 8, 36)

    def test_the_least_place(self):
        points = FRAME_POINTS[:2] + [(10, 9), (10, 10)] + FRAME_POINTS[2:]
        self.refused(sample(points, [(0, 1), (0, 4), (1, 5), (2, 3), (4, 5)]), 8, 36)
        self.refused(sample(points, [(0, 1), (0, 3), (0, 4), (1, 5), (4, 5)]), 8, 36)


class RuleNine(Opened):
    RING = [(0, 0), (30, 0), (5, 5), (9, 5), (5, 9), (0, 20), (30, 20)]
    RING_LINES = [(0, 1), (0, 5), (1, 6), (2, 3), (2, 4), (3, 4), (5, 6)]

    def test_a_ring_that_hangs_nowhere(self):
        self.refused(sample(self.RING, self.RING_LINES, [(6, 6, 0, 0), (20, 10, 0, 0)]), 9, 36)

    def test_a_ring_of_which_the_frame_is_behind(self):
        points = [(0, 0), (30, 0), (20, 5), (9, 6), (25, 9), (0, 20), (30, 20)]
        lines = [(0, 1), (0, 5), (1, 6), (2, 3), (2, 4), (3, 4), (5, 6)]
        self.refused(sample(points, lines), 9, 36)


class RuleTen(Opened):
    def test_a_ring_that_hangs_at_one_point(self):
        points = [(0, 0), (30, 0), (5, 5), (5, 9), (0, 20), (30, 20)]
        lines = [(0, 1), (0, 2), (0, 3), (0, 4), (1, 5), (2, 3), (4, 5)]
        self.refused(sample(points, lines, [(4, 5, 0, 0), (20, 10, 0, 0)]), 10, 20)

    def test_a_ring_that_hangs_at_a_line(self):
        # From (30, 0) a line to (20, 5), where a ring hangs: both points cut.
        points = [(0, 0), (30, 0), (20, 5), (9, 6), (25, 9), (0, 20), (30, 20)]
        lines = [(0, 1), (0, 5), (1, 2), (1, 6), (2, 3), (2, 4), (3, 4), (5, 6)]
        self.refused(sample(points, lines), 10, 28)

    def test_a_ring_that_hangs_at_the_last_point(self):
        points = [(0, 0), (30, 0), (20, 15), (25, 15), (0, 20), (30, 20)]
        lines = [(0, 1), (0, 4), (1, 5), (2, 3), (2, 5), (3, 5), (4, 5)]
        self.refused(sample(points, lines), 10, 60)


class RuleEleven(Opened):
    def with_marks(self, spots, number):
        marks = [(x, y, 0, 0) for x, y in spots]
        self.refused(sample(marks=marks), 11, MARKS_AT + 12 * number)

    def test_not_within_the_frame(self):
        self.with_marks([(0, 2), (15, 15)], 0)
        self.with_marks([(15, 0), (15, 15)], 0)
        self.with_marks([(15, 2), (30, 15)], 1)
        self.with_marks([(15, 2), (15, 20)], 1)
        self.with_marks([(15, 2), (31, 15)], 1)
        self.with_marks([(15, 2), (15, 4294967295)], 1)
        self.with_marks([(15, 2), (4294967295, 15)], 1)
        self.with_marks([(15, 2), (16777216 + 15, 15)], 1)
        self.with_marks([(15, 2), (15, 16777216 + 15)], 1)

    def test_on_a_line(self):
        self.with_marks([(3, 3), (15, 15)], 0)
        self.with_marks([(15, 2), (20, 5)], 1)
        self.with_marks([(15, 2), (10, 10)], 1)

    def test_on_a_level_line(self):
        points = [(0, 0), (30, 0), (0, 10), (30, 10), (0, 20), (30, 20)]
        lines = [(0, 1), (0, 2), (1, 3), (2, 3), (2, 4), (3, 5), (4, 5)]
        self.refused(sample(points, lines, [(5, 5, 0, 0), (5, 10, 0, 0)]), 11, 20 + 48 + 28 + 12)
        self.taken(sample(points, lines, [(5, 9, 0, 0), (5, 11, 0, 0)]))

    def test_not_behind_the_one_before(self):
        self.with_marks([(15, 15), (15, 2)], 1)
        self.with_marks([(15, 2), (14, 2)], 1)
        self.with_marks([(15, 2), (15, 2)], 1)

    def test_the_least_place(self):
        self.with_marks([(0, 2), (15, 20)], 0)
        self.with_marks([(15, 2), (15, 1), (15, 20)], 1)


class RuleTwelve(Opened):
    def test_two_in_one_pane(self):
        self.refused(sample(marks=[(15, 2, 0, 0), (16, 2, 0, 0)]), 12, MARKS_AT + 12)
        self.refused(sample(marks=[(2, 10, 0, 0), (15, 15, 0, 0)]), 12, MARKS_AT + 12)

    def test_the_least_place(self):
        marks = [(15, 2, 0, 0), (16, 2, 0, 0), (15, 15, 0, 0), (16, 15, 0, 0)]
        self.refused(sample(marks=marks), 12, MARKS_AT + 12)
        self.refused(sample(marks=marks[1:]), 12, MARKS_AT + 24)

    def test_a_pane_that_bends(self):
        # The lower pane goes round the spike (0, 0) (15, 15) (30, 0) upside down.
        points = [(0, 0), (15, 15), (30, 0), (0, 20), (30, 20)]
        points = sorted(points, key=lambda p: (p[1], p[0]))
        marks = [(15, 2, 0, 0), (1, 10, 0, 0), (29, 10, 0, 0)]
        self.refused(sample(points, LINES, marks), 12, MARKS_AT + 24)


class RuleThirteen(Opened):
    def test_a_pane_without_a_mark(self):
        self.refused(sample(marks=MARKS[:1]), 13, MARKS_AT + 12)
        self.refused(sample(marks=MARKS[1:]), 13, MARKS_AT + 12)

    def test_a_pane_without_a_whole_point(self):
        points = [(0, 0), (1, 0), (30, 0), (0, 1), (0, 20), (30, 20)]
        lines = [(0, 1), (0, 3), (1, 2), (1, 3), (2, 5), (3, 4), (4, 5)]
        self.refused(sample(points, lines, FRAME_MARKS), 13, 20 + 48 + 28 + 12)


class TwoRules(Opened):
    def test_the_first_rule_is_named_though_its_place_is_greater(self):
        # Rule 11 at the second mark, rule 12 nowhere before; rule 13 as well.
        self.refused(sample(marks=[(15, 2, 0, 0), (15, 20, 0, 0)]), 11, MARKS_AT + 12)
        # Rule 12 would be at the second mark, rule 11 at the third.
        self.refused(sample(marks=[(15, 2, 0, 0), (16, 2, 0, 0), (15, 20, 0, 0)]), 11, MARKS_AT + 24)
        # Rule 5 at the last line, rule 6 at 20.
        self.refused(sample(lines=[(0, 2), (0, 3), (1, 2), (1, 4), (2, 3), (3, 9)]), 5, LINES_AT + 20)
        # Rule 7 at a line, rule 8 at a point before it.
        points = FRAME_POINTS[:2] + [(10, 9)] + FRAME_POINTS[2:]
        self.refused(sample(points, [(0, 1), (0, 3), (0, 4), (1, 3), (1, 4), (3, 4)]), 7, 20 + 40 + 12)

    def test_rules_one_behind_another(self):
        data = sample()[:-1]
        self.refused(data, 3, 20)
        data = changed(data, 19, [1])
        self.refused(data, 2, 18)
        data = changed(data, 2, [0])
        self.refused(data, 1, 0)
        self.refused(data[:5], 1, 5)

    def test_answers_one_behind_another(self):
        rows = told(opened(sample()[:7]), opened(sample()), opened(frame(15, 15)), opened(frame()))
        self.assertEqual(rows, [[-5, 1, 7], [0], [-5, 2, 4], [0]])


if __name__ == "__main__":
    unittest.main()
