"""lead: taken, and refused by each rule that it can break."""

import unittest

from tests.stepping import (
    ABOVE_KIND, ABOVE_LENGTH, MOST_ASKED, SPLIT, THREE, Stepping, line_place, mark_place, point_place,
)
from tests.tools import Table, bare, last_told, lead

BARE = (bare(30, 20, 15, 15),)


def zigzag(count, width):
    """A row of this many points from the left edge to the right one."""
    row = [(x * width // (count - 1), 30 + 10 * (x % 2)) for x in range(count)]
    return row


class Taken(Stepping):
    def test_from_edge_to_edge(self):
        table = self.taken(BARE, lead([(0, 5), (30, 5)], 15, 2, 7, 8))
        self.assertEqual(table.points(), [(0, 0), (30, 0), (0, 5), (30, 5), (0, 20), (30, 20)])
        self.assertEqual(table.lines(), [(0, 1), (0, 2), (1, 3), (2, 3), (2, 4), (3, 5), (4, 5)])
        self.assertEqual(table.full_marks(), [(15, 2, 7, 8), (15, 15, 0, 0)])

    def test_either_way_round_is_the_same(self):
        row = [(0, 5), (7, 9), (30, 5)]
        one = self.taken(BARE, lead(row, 15, 2))
        other = self.taken(BARE, lead(row[::-1], 15, 2))
        self.assertEqual(one.held(), other.held())

    def test_from_corner_to_corner(self):
        table = self.taken((bare(30, 20, 1, 10),), lead([(0, 0), (30, 20)], 15, 2))
        self.assertEqual(len(table.points()), 4)
        self.assertEqual(len(table.lines()), 5)

    def test_with_points_on_lines_and_at_points(self):
        table = self.taken(SPLIT, lead([(10, 7), (20, 3), (30, 20)], 20, 1))
        self.assertEqual(table.points(), [(0, 0), (10, 0), (30, 0), (20, 3), (10, 7), (0, 20), (10, 20), (30, 20)])
        self.assertEqual(table.lines(), [(0, 1), (0, 5), (1, 2), (1, 4), (2, 7), (3, 4), (3, 7), (4, 6), (5, 6),
                                         (6, 7)])

    def test_that_changes_the_numbers_of_all(self):
        table = self.taken(SPLIT, lead([(4, 0), (4, 20)], 2, 1))
        self.assertEqual(table.marks(), [(2, 1), (5, 10), (20, 15)])
        self.assertEqual(table.points()[1], (4, 0))

    def test_along_a_line_that_is_there(self):
        table = self.taken(SPLIT, lead([(10, 0), (10, 10), (30, 10)], 20, 5))
        self.assertEqual(len(table.points()), 8)
        self.assertEqual(len(table.lines()), 10)
        self.assertEqual(table.marks(), [(20, 5), (5, 10), (20, 15)])

    def test_a_row_that_parts_one_line_at_several_points(self):
        for row in ([(10, 4), (15, 10), (10, 12)], [(10, 12), (15, 10), (10, 4)]):
            table = self.taken(SPLIT, lead(row, 11, 9))
            self.assertEqual(len(table.points()), 9)
            self.assertEqual(len(table.lines()), 11)
            points = table.points()
            for one, other in (((10, 0), (10, 4)), ((10, 4), (10, 12)), ((10, 12), (10, 20))):
                self.assertIn((points.index(one), points.index(other)), table.lines())

    def test_a_row_that_parts_one_line_at_three_points_out_of_order(self):
        table = self.taken(SPLIT, lead([(10, 12), (10, 15), (10, 12), (15, 10), (10, 4)], 11, 9))
        points = table.points()
        self.assertEqual(len(points), 10)
        self.assertIn((points.index((10, 12)), points.index((10, 15))), table.lines())
        self.assertIn((points.index((10, 15)), points.index((10, 20))), table.lines())

    def test_a_row_that_parts_an_edge_of_the_frame_at_two_points(self):
        table = self.taken(BARE, lead([(5, 0), (9, 6), (14, 0)], 9, 3))
        self.assertEqual(table.lines()[:2], [(0, 1), (0, 5)])
        self.assertEqual(len(table.lines()), 8)

    def test_a_point_twice_with_the_same_line(self):
        there_and_back = self.taken(SPLIT, lead([(0, 5), (10, 5), (0, 5)], 5, 2))
        there = self.taken(SPLIT, lead([(0, 5), (10, 5)], 5, 2))
        self.assertEqual(there_and_back.held(), there.held())

    def test_64_points(self):
        table = self.taken((bare(630, 100, 5, 5),), lead(zigzag(64, 630), 5, 95))
        self.assertEqual(len(table.points()), 4 + 64)
        self.assertEqual(len(table.lines()), 4 + 2 + 63)

    def test_the_greatest_numbers_that_fit(self):
        table = self.taken(BARE, lead([(0, 5), (30, 5)], 15, 2, 65535, 65535))
        self.assertEqual(table.full_marks()[0], (15, 2, 65535, 65535))


class Refused(Stepping):
    def test_no_record(self):
        self.assertEqual(last_told(lead([(0, 5), (30, 5)], 15, 2)), [-9])

    def test_no_record_behind_one_that_was_refused(self):
        self.assertEqual(last_told(bare(3, 3, 1, 1), lead([(0, 5), (30, 5)], 15, 2)), [-9])

    def test_no_record_is_looked_at_first(self):
        self.assertEqual(last_told(lead([], MOST_ASKED, 2)), [-9])

    def test_a_number_too_great(self):
        row = [(0, 5), (15, 6), (30, 5)]
        for value in (ABOVE_LENGTH, MOST_ASKED):
            self.refused(BARE, lead(row, value, 2), -1)
            self.refused(BARE, lead(row, 15, value), -1)
            self.refused(BARE, lead([(0, 5), (value, 6), (30, 5)], 15, 2), -1)
            self.refused(BARE, lead([(0, value), (15, 6), (30, 5)], 15, 2), -1)
            self.refused(BARE, lead([(0, 5), (15, 6), (30, value)], 15, 2), -1)
        for value in (ABOVE_KIND, MOST_ASKED):
            self.refused(BARE, lead(row, 15, 2, value, 0), -1)
            self.refused(BARE, lead(row, 15, 2, 0, value), -1)

    def test_too_few_points(self):
        self.refused(BARE, lead([], 15, 2), -1)
        self.refused(BARE, lead([(0, 5)], 15, 2), -1)

    def test_too_many_points(self):
        self.refused((bare(640, 100, 5, 5),), lead(zigzag(65, 640), 5, 95), -1)
        self.refused((bare(640, 100, 5, 5),), lead(zigzag(200, 640), 5, 95), -1)

    def test_too_many_points_before_what_they_break(self):
        self.refused(BARE, lead([(99, 99)] * 65, 15, 2), -1)
        self.refused(BARE, lead([(99, 99)] * 64, 15, 2), -5, 4, point_place(4))

    def test_rule_4_beyond_the_frame(self):
        self.refused(BARE, lead([(0, 5), (31, 5)], 15, 2), -5, 4, point_place(3))
        self.refused(BARE, lead([(0, 5), (30, 21)], 15, 2), -5, 4, point_place(5))
        self.refused(BARE, lead([(4294967295, 4294967295), (31, 3)], 15, 2), -5, 4, point_place(2))

    def test_rule_5_the_same_point_behind_itself(self):
        # Lines: 0-1 0-2 1-3 2-2: the fourth.
        self.refused(BARE, lead([(0, 5), (0, 5), (30, 5)], 15, 2), -5, 5, line_place(6, 3))
        self.refused(BARE, lead([(0, 5), (30, 5), (30, 5)], 15, 2), -5, 5, line_place(6, 5))
        self.refused(BARE, lead([(0, 0), (0, 0)], 15, 2), -5, 5, line_place(4, 0))

    def test_rule_5_behind_rule_4(self):
        self.refused(BARE, lead([(0, 5), (0, 5), (31, 5)], 15, 2), -5, 4, point_place(3))

    def test_rule_7_across_a_line(self):
        # Points: (0,0) (10,0) (30,0) (0,5) (30,5) (0,20) (10,20) (30,20); the line 3-4 is behind 1-6.
        self.refused(SPLIT, lead([(0, 5), (30, 5)], 15, 2), -5, 7, line_place(8, 5))

    def test_rule_7_across_itself(self):
        # (0, 2) (12, 10) is the line 2-5, (12, 2) (0, 10) the line 3-4 behind it.
        row = [(0, 2), (12, 10), (12, 2), (0, 10)]
        self.refused(BARE, lead(row, 1, 5), -5, 7, line_place(8, 5))

    def test_rule_7_over_a_point_of_its_own(self):
        # (15, 5) lies on (0, 5) (30, 5), which is no line of the cartoon: it is not parted.
        self.refused(BARE, lead([(0, 5), (30, 5), (15, 5), (15, 0)], 2, 2), -5, 7, line_place(8, 5))

    def test_rule_7_over_a_point_of_the_cartoon(self):
        # (10, 10) lies on (10, 0) (10, 20).
        self.refused(THREE, lead([(10, 0), (10, 20)], 5, 2), -5, 7, line_place(8, 4))

    def test_rule_8_an_end_that_hangs(self):
        self.refused(BARE, lead([(0, 5), (12, 5)], 15, 2), -5, 8, point_place(3))
        self.refused(BARE, lead([(3, 5), (12, 5)], 15, 2), -5, 8, point_place(2))
        self.refused(SPLIT, lead([(10, 5), (20, 5), (10, 5)], 15, 2), -5, 8, point_place(4))

    def test_rule_9_a_ring_within_a_pane(self):
        self.refused(BARE, lead([(5, 5), (9, 5), (5, 9), (5, 5)], 6, 6), -5, 9, point_place(2))

    def test_rule_10_a_ring_that_hangs_at_a_point(self):
        self.refused(BARE, lead([(0, 0), (5, 5), (5, 9), (0, 0)], 4, 5), -5, 10, point_place(0))
        self.refused(BARE, lead([(0, 5), (5, 3), (5, 7), (0, 5)], 4, 5), -5, 10, point_place(3))

    def test_rule_11_the_mark(self):
        row = [(0, 5), (30, 5)]
        self.refused(BARE, lead(row, 15, 5), -5, 11, mark_place(6, 7, 0))
        self.refused(BARE, lead(row, 0, 2), -5, 11, mark_place(6, 7, 0))
        self.refused(BARE, lead(row, 31, 2), -5, 11, mark_place(6, 7, 0))
        self.refused(BARE, lead(row, 4294967295, 4294967295), -5, 11, mark_place(6, 7, 1))
        self.refused(BARE, lead(row, 15, 15), -5, 11, mark_place(6, 7, 1))
        self.refused(BARE, lead(row, 15, 15, 9, 9), -5, 11, mark_place(6, 7, 1))

    def test_rule_11_over_a_mark_that_was_there(self):
        self.refused(BARE, lead([(0, 15), (30, 15)], 3, 2), -5, 11, mark_place(6, 7, 1))

    def test_rule_12_the_mark_in_the_wrong_part(self):
        self.refused(BARE, lead([(0, 5), (30, 5)], 15, 10), -5, 12, mark_place(6, 7, 1))
        self.refused(BARE, lead([(0, 5), (30, 5)], 16, 15), -5, 12, mark_place(6, 7, 1))
        self.refused(SPLIT, lead([(0, 5), (10, 5)], 20, 10), -5, 12, mark_place(8, 10, 2))

    def test_rule_12_no_new_pane_along_lines(self):
        self.refused(SPLIT, lead([(10, 0), (10, 20)], 5, 5), -5, 12, mark_place(6, 7, 1))
        self.refused(SPLIT, lead([(0, 0), (10, 0)], 5, 5), -5, 12, mark_place(6, 7, 1))
        self.refused(SPLIT, lead([(10, 5), (10, 12)], 5, 5), -5, 12, mark_place(8, 9, 1))

    def test_rule_13_two_panes_more(self):
        # Points (0,0) (15,0) (30,0) (0,5) (30,5) (0,20) (30,20); 9 lines, 3 panes, 2 marks.
        self.refused(BARE, lead([(0, 5), (15, 0), (30, 5)], 2, 2), -5, 13, 20 + 56 + 36 + 24)

    def test_rule_13_a_pane_too_small_for_a_mark(self):
        self.refused(BARE, lead([(0, 1), (1, 0), (15, 4), (30, 0)], 15, 2), -5, 13, 20 + 56 + 36 + 24)

    def test_what_is_refused_leaves_the_next_call_alone(self):
        begun = SPLIT + (lead([(10, 10), (30, 10)], 20, 5),)
        call = lead([(0, 5), (30, 5)], 15, 2)
        table = self.taken(begun[:2], begun[2])
        held = table.held()
        self.assertEqual(table.put(call)[0], -5)
        self.assertEqual(table.put(lead([(0, 5), (10, 5)], 5, 2)), [0])
        self.assertEqual(self.taken(begun, lead([(0, 5), (10, 5)], 5, 2)).held(), table.held())
        self.assertNotEqual(table.held(), held)


class Rule2(Stepping):
    def test_more_than_4096_points(self):
        # Leads one above another, of 64 new points each: 4 + 63 * 64 = 4036; then 60 that just fit.
        begun = [bare(63000, 70000, 5, 5)]
        for n in range(63):
            begun.append(self.level(64, 1000 * (n + 1)))
        table = Table(*begun)
        self.assertEqual(table.put(self.level(61, 69000)), [-5, 2, 12])
        self.assertEqual(len(table.points()), 4036)
        self.assertEqual(table.put(self.level(60, 69000)), [0])
        self.assertEqual(len(table.points()), 4096)
        self.assertEqual(table.put(lead([(0, 500), (63000, 500)], 5, 600)), [-5, 2, 12])

    def level(self, count, height):
        row = [(63000 * x // (count - 1), height + 300 * (x % 2)) for x in range(count)]
        return lead(row, 5, height + 600)


if __name__ == "__main__":
    unittest.main()
