"""move, mark, drop: taken, and refused."""

import unittest

from tests.stepping import (
    ABOVE_KIND, ABOVE_LENGTH, MOST_ASKED, SPLIT, THREE, Stepping, line_place, mark_place, point_place,
)
from tests.tools import bare, cartoon_bytes, drop, erase, last_told, lead, mark, move, opened

BARE = (bare(30, 20, 15, 15),)

# A lead with two corners of its own.
# Points: (0,0) (30,0) (0,5) (30,5) (20,6) (10,8) (0,20) (30,20).
# Lines: 0-1 0-2 1-3 2-5 2-6 3-4 3-7 4-5 6-7. Marks: (15,2) (15,15).
BENT = (bare(30, 20, 15, 15), lead([(0, 5), (10, 8), (20, 6), (30, 5)], 15, 2))

# A triangle pane on the edge of the frame.
# Points: (0,0) (10,0) (20,0) (30,0) (15,8) (0,20) (30,20).
# Lines: 0-1 0-5 1-2 1-4 2-3 2-4 3-6 5-6. Marks: (15,3) (15,15).
TENT = (bare(30, 20, 15, 15), lead([(10, 0), (15, 8), (20, 0)], 15, 3))


class MoveTaken(Stepping):
    def test_a_corner_of_a_lead(self):
        table = self.taken(BENT, move(5, 11, 9))
        self.assertEqual(table.points()[5], (11, 9))
        self.assertEqual(table.lines(), [(0, 1), (0, 2), (1, 3), (2, 5), (2, 6), (3, 4), (3, 7), (4, 5), (6, 7)])

    def test_that_changes_the_numbers(self):
        # (10, 8) goes to (10, 5): between (0, 5) and (30, 5).
        table = self.taken(BENT, move(5, 10, 5))
        self.assertEqual(table.points(), [(0, 0), (30, 0), (0, 5), (10, 5), (30, 5), (20, 6), (0, 20), (30, 20)])
        self.assertEqual(table.lines(), [(0, 1), (0, 2), (1, 4), (2, 3), (2, 6), (3, 5), (4, 5), (4, 7), (6, 7)])

    def test_to_where_it_is(self):
        table = self.taken(BENT, move(5, 10, 8))
        self.assertEqual(table.held(), self.taken(BENT[:1], BENT[1]).held())

    def test_along_the_edge_of_the_frame(self):
        table = self.taken(SPLIT, move(1, 7, 0))
        self.assertEqual(table.points(), [(0, 0), (7, 0), (30, 0), (0, 20), (10, 20), (30, 20)])

    def test_and_back(self):
        table = self.taken(BENT, move(4, 22, 12))
        self.assertEqual(table.points()[5], (22, 12))
        self.assertEqual(table.put(move(5, 20, 6)), [0])
        self.assertEqual(table.held(), self.taken(BENT[:1], BENT[1]).held())


class MoveRefused(Stepping):
    def test_no_record(self):
        self.assertEqual(last_told(move(0, 1, 1)), [-9])
        self.assertEqual(last_told(move(0, ABOVE_LENGTH, 1)), [-9])

    def test_a_number_too_great(self):
        for value in (ABOVE_LENGTH, MOST_ASKED):
            self.refused(BENT, move(5, value, 8), -1)
            self.refused(BENT, move(5, 10, value), -1)

    def test_no_such_point(self):
        for k in (8, 65536, ABOVE_LENGTH, MOST_ASKED):
            self.refused(BENT, move(k, 10, 9), -2)

    def test_too_great_before_no_such_point(self):
        self.refused(BENT, move(8, ABOVE_LENGTH, 9), -1)

    def test_no_such_point_before_what_it_breaks(self):
        self.refused(BENT, move(8, 99, 99), -2)

    def test_rule_4_beyond_the_frame(self):
        self.refused(BENT, move(5, 31, 8), -5, 4, point_place(5))
        self.refused(BENT, move(5, 10, 21), -5, 4, point_place(7))
        self.refused(BENT, move(0, 4294967295, 4294967295), -5, 4, point_place(7))

    def test_rule_5_onto_a_neighbour(self):
        # (10, 8) onto (20, 6), number 4: the line from 4 to itself is behind 3-4 and 3-6.
        self.refused(BENT, move(5, 20, 6), -5, 5, line_place(7, 7))

    def test_rule_2_of_the_frame_alone(self):
        self.refused(BARE, move(0, 30, 0), -5, 2, 12)

    def test_rule_6_a_corner_or_a_point_of_the_edge(self):
        self.refused(BENT, move(0, 1, 0), -5, 6, 20)
        self.refused(BENT, move(0, 1, 1), -5, 6, 20)
        self.refused(BENT, move(2, 1, 5), -5, 6, 20)
        self.refused(BENT, move(2, 30, 9), -5, 6, 20)

    def test_rule_6_a_point_onto_the_edge(self):
        # (10, 8) onto (10, 0): no line joins it with (0, 0).
        self.refused(BENT, move(5, 10, 0), -5, 6, 20)

    def test_rule_7_over_a_line(self):
        # (15, 8) to (15, 12), over the level lead at 10: the lines 1-6 and 2-6 cross 4-5.
        begun = TENT + (lead([(0, 10), (30, 10)], 3, 5),)
        # Points then: (0,0) (10,0) (20,0) (30,0) (0,10) (30,10) (15,12) (0,20) (30,20).
        # Lines: 0-1 0-4 1-2 1-6 2-3 2-6 3-5 4-5 4-7 5-8 7-8: 4-5 is behind those that it crosses.
        self.refused(begun, move(4, 15, 12), -5, 7, line_place(9, 7))

    def test_rule_7_onto_a_line_that_stays(self):
        begun = TENT + (lead([(0, 10), (30, 10)], 3, 5),)
        # Points then: (0,0) (10,0) (20,0) (30,0) (0,10) (15,10) (30,10) (0,20) (30,20).
        # Lines: 0-1 0-4 1-2 1-5 2-3 2-5 3-6 4-6 4-7 6-8 7-8.
        self.refused(begun, move(4, 15, 10), -5, 7, line_place(9, 7))

    def test_rule_11_a_line_over_a_mark(self):
        # With both its corners at height 15 the lead goes over (15, 15).
        begun = BENT + (move(5, 10, 15),)
        # Points: (0,0) (30,0) (0,5) (30,5) (20,6) (10,15) (0,20) (30,20).
        self.refused(begun, move(4, 20, 15), -5, 11, mark_place(8, 9, 1))

    def test_rule_12_a_line_past_a_mark(self):
        # The tent's top goes down below the tent's mark.
        self.refused(TENT, move(4, 15, 2), -5, 12, mark_place(7, 8, 1))

    def test_onto_another_point(self):
        # The tent's feet made one: the line between them is one from a point to itself.
        self.refused(TENT, move(1, 20, 0), -5, 5, line_place(6, 2))
        # The corner (0, 20) onto (15, 8), which isn't its neighbour: the corner is missing.
        self.refused(TENT, move(5, 15, 8), -5, 6, 20)

    def test_two_points_that_become_one_with_their_lines(self):
        # The corners of two leads between (0, 10) and (30, 10), made one: a pane is gone.
        begun = (bare(30, 20, 15, 15), lead([(0, 10), (15, 12), (30, 10)], 15, 4),
                 lead([(0, 10), (15, 8), (30, 10)], 15, 10))
        # Points: (0,0) (30,0) (15,8) (0,10) (30,10) (15,12) (0,20) (30,20), and 10 lines; then 7 and 8.
        # The mark (15, 10) is then above (15, 8), or below (15, 12).
        self.refused(begun, move(5, 15, 8), -5, 12, mark_place(7, 8, 2))
        self.refused(begun, move(2, 15, 12), -5, 12, mark_place(7, 8, 1))


class MarkTaken(Stepping):
    def test_another_glass(self):
        table = self.taken(SPLIT, mark(1, 20, 15, 65535, 65535))
        self.assertEqual(table.full_marks(), [(5, 10, 0, 0), (20, 15, 65535, 65535)])

    def test_another_spot(self):
        self.assertEqual(self.taken(SPLIT, mark(0, 9, 19, 3)).marks(), [(20, 15), (9, 19)])

    def test_that_changes_the_numbers(self):
        table = self.taken(SPLIT, mark(1, 11, 1, 8, 9))
        self.assertEqual(table.full_marks(), [(11, 1, 8, 9), (5, 10, 0, 0)])
        self.assertEqual(table.put(mark(0, 12, 1)), [0])
        self.assertEqual(table.marks(), [(12, 1), (5, 10)])

    def test_the_lines_stay(self):
        before = self.taken(SPLIT[:1], SPLIT[1])
        behind = self.taken(SPLIT, mark(0, 1, 1))
        self.assertEqual(before.points(), behind.points())
        self.assertEqual(before.lines(), behind.lines())

    def test_as_it_is(self):
        self.assertEqual(self.taken(SPLIT, mark(0, 5, 10)).held(), self.taken(SPLIT[:1], SPLIT[1]).held())


class MarkRefused(Stepping):
    def test_no_record(self):
        self.assertEqual(last_told(mark(0, 1, 1)), [-9])
        self.assertEqual(last_told(mark(0, 1, 1, ABOVE_KIND)), [-9])

    def test_a_number_too_great(self):
        for value in (ABOVE_LENGTH, MOST_ASKED):
            self.refused(SPLIT, mark(0, value, 10), -1)
            self.refused(SPLIT, mark(0, 5, value), -1)
        for value in (ABOVE_KIND, MOST_ASKED):
            self.refused(SPLIT, mark(0, 5, 10, value), -1)
            self.refused(SPLIT, mark(0, 5, 10, 0, value), -1)

    def test_no_such_mark(self):
        for i in (2, 65536, ABOVE_LENGTH, MOST_ASKED):
            self.refused(SPLIT, mark(i, 5, 11), -2)

    def test_too_great_before_no_such_mark(self):
        self.refused(SPLIT, mark(2, 5, 11, ABOVE_KIND), -1)

    def test_no_such_mark_before_what_it_breaks(self):
        self.refused(SPLIT, mark(2, 0, 0), -2)

    def test_rule_11(self):
        self.refused(SPLIT, mark(0, 10, 10), -5, 11, mark_place(6, 7, 0))
        self.refused(SPLIT, mark(0, 10, 20), -5, 11, mark_place(6, 7, 1))
        self.refused(SPLIT, mark(0, 0, 10), -5, 11, mark_place(6, 7, 0))
        self.refused(SPLIT, mark(1, 30, 10), -5, 11, mark_place(6, 7, 1))
        self.refused(SPLIT, mark(1, 99, 99), -5, 11, mark_place(6, 7, 1))
        self.refused(SPLIT, mark(0, 20, 15), -5, 11, mark_place(6, 7, 1))

    def test_rule_12_in_another_pane(self):
        self.refused(SPLIT, mark(0, 20, 10), -5, 12, mark_place(6, 7, 1))
        self.refused(SPLIT, mark(1, 5, 3), -5, 12, mark_place(6, 7, 1))
        self.refused(THREE, mark(0, 20, 16), -5, 12, mark_place(8, 10, 2))
        self.refused(THREE, mark(2, 21, 5), -5, 12, mark_place(8, 10, 1))


class DropTaken(Stepping):
    def test_a_corner_of_a_lead(self):
        table = self.taken(BENT, drop(5))
        self.assertEqual(table.points(), [(0, 0), (30, 0), (0, 5), (30, 5), (20, 6), (0, 20), (30, 20)])
        self.assertEqual(table.lines(), [(0, 1), (0, 2), (1, 3), (2, 4), (2, 5), (3, 4), (3, 6), (5, 6)])

    def test_one_behind_another(self):
        table = self.taken(BENT, drop(4))
        self.assertEqual(table.put(drop(4)), [0])
        self.assertEqual(table.held(), self.taken(BARE, lead([(0, 5), (30, 5)], 15, 2)).held())

    def test_a_point_of_the_edge(self):
        table = self.taken(SPLIT + (erase(0, 1),), drop(1))
        self.assertEqual(table.put(drop(3)), [0])
        self.assertEqual(table.points(), [(0, 0), (30, 0), (0, 20), (30, 20)])
        self.assertEqual(table.lines(), [(0, 1), (0, 2), (1, 3), (2, 3)])

    def test_that_changes_the_numbers(self):
        table = self.taken(SPLIT + (erase(0, 1),), drop(1))
        self.assertEqual(table.points(), [(0, 0), (30, 0), (0, 20), (10, 20), (30, 20)])
        self.assertEqual(table.lines(), [(0, 1), (0, 2), (1, 4), (2, 3), (3, 4)])


class DropRefused(Stepping):
    def test_no_record(self):
        self.assertEqual(last_told(drop(0)), [-9])
        self.assertEqual(last_told(drop(MOST_ASKED)), [-9])

    def test_no_such_point(self):
        for k in (8, 65536, ABOVE_LENGTH, MOST_ASKED):
            self.refused(BENT, drop(k), -2)

    def test_not_just_two_lines(self):
        self.refused(BENT, drop(2), -2)
        self.refused(BENT, drop(3), -2)
        self.refused(TENT, drop(1), -2)

    def test_four_lines(self):
        begun = (bare(30, 20, 5, 15), lead([(10, 0), (10, 20)], 20, 15), lead([(10, 10), (30, 10)], 20, 5),
                 lead([(0, 10), (10, 10)], 5, 5))
        # Points: (0,0) (10,0) (30,0) (0,10) (10,10) ..
        self.refused(begun, drop(4), -2)

    def test_rule_2_of_the_frame_alone(self):
        for k in range(4):
            self.refused(BARE, drop(k), -5, 2, 12)

    def test_rule_6_a_corner(self):
        for k in (0, 1, 6, 7):
            self.refused(BENT, drop(k), -5, 6, 20)

    def test_rule_7_a_line_that_is_crossed(self):
        # A lead over the top of the tent: without its corner it would go through the tent.
        begun = (bare(30, 20, 15, 18), lead([(10, 0), (15, 8), (20, 0)], 15, 3),
                 lead([(0, 2), (15, 12), (30, 2)], 15, 10))
        # Points: (0,0) (10,0) (20,0) (30,0) (0,2) (30,2) (15,8) (15,12) (0,20) (30,20); behind it 9.
        # Lines: 0-1 0-4 1-2 1-6 2-3 2-6 3-5 4-5 4-7 5-8 7-8.
        self.refused(begun, drop(7), -5, 7, line_place(9, 7))

    def test_rule_7_a_line_over_a_point(self):
        begun = (bare(30, 20, 15, 18), lead([(10, 0), (15, 8), (20, 0)], 15, 3),
                 lead([(0, 8), (15, 12), (30, 8)], 15, 10))
        # Points: (0,0) (10,0) (20,0) (30,0) (0,8) (15,8) (30,8) (15,12) (0,20) (30,20).
        self.refused(begun, drop(7), -5, 7, line_place(9, 7))

    def test_rule_11_a_line_over_a_mark(self):
        begun = (bare(30, 20, 15, 15), lead([(0, 5), (15, 9), (30, 5)], 15, 5))
        # Points: (0,0) (30,0) (0,5) (30,5) (15,9) (0,20) (30,20).
        self.refused(begun, drop(4), -5, 11, mark_place(6, 7, 0))

    def test_rule_12_a_line_past_a_mark(self):
        begun = (bare(30, 20, 15, 15), lead([(0, 5), (15, 9), (30, 5)], 15, 6))
        self.refused(begun, drop(4), -5, 12, mark_place(6, 7, 1))

    def test_the_line_between_the_neighbours_is_there_already(self):
        # Of the tent the floor is left, and its mark is where the other one is.
        self.refused(TENT, drop(4), -5, 12, mark_place(6, 6, 1))

    def test_the_line_between_the_neighbours_is_there_above(self):
        # A triangle upside down, on whose upper line two panes meet; 7 lines are left.
        points = [(0, 0), (30, 0), (15, 4), (0, 10), (30, 10), (0, 20), (30, 20)]
        lines = [(0, 1), (0, 3), (1, 4), (2, 3), (2, 4), (3, 4), (3, 5), (4, 6), (5, 6)]
        marks = [(15, 2, 0, 0), (15, 8, 0, 0), (15, 15, 0, 0)]
        begun = (opened(cartoon_bytes(30, 20, points, lines, marks)),)
        self.refused(begun, drop(2), -5, 12, mark_place(6, 7, 1))


if __name__ == "__main__":
    unittest.main()
