"""erase: taken, and refused."""

import unittest

from tests.stepping import MOST_ASKED, SPLIT, THREE, Stepping, point_place
from tests.tools import Table, bare, cartoon_bytes, erase, last_told, lead, opened

# A lead with corners of its own between the two panes, and a third pane above.
BENT = (
    bare(30, 20, 15, 2),
    lead([(0, 5), (10, 8), (20, 6), (30, 5)], 15, 12),
    lead([(0, 15), (30, 15)], 15, 17),
)

# A square within a square, with two leads from the one to the other: the ring
# round the inner square is parted in two panes, that share both leads.
RING_POINTS = [(0, 0), (30, 0), (10, 10), (20, 10), (10, 20), (20, 20), (0, 30), (30, 30)]
RING_LINES = [(0, 1), (0, 2), (0, 6), (1, 7), (2, 3), (2, 4), (3, 5), (4, 5), (5, 7), (6, 7)]
RING_MARKS = [(15, 5, 1, 0), (15, 15, 2, 0), (15, 25, 3, 0)]
RING = (opened(cartoon_bytes(30, 30, RING_POINTS, RING_LINES, RING_MARKS)),)


class Taken(Stepping):
    def test_one_line(self):
        table = self.taken(THREE, erase(0, 2))
        self.assertEqual(table.points(), [(0, 0), (10, 0), (30, 0), (10, 10), (30, 10), (0, 20), (10, 20), (30, 20)])
        self.assertEqual(table.lines(), [(0, 1), (0, 5), (1, 2), (1, 3), (2, 4), (3, 6), (4, 7), (5, 6), (6, 7)])
        self.assertEqual(table.marks(), [(20, 5), (5, 10)])

    def test_the_mark_of_the_second_goes(self):
        self.assertEqual(self.taken(THREE, erase(2, 0)).marks(), [(5, 10), (20, 15)])
        self.assertEqual(self.taken(SPLIT, erase(0, 1)).marks(), [(5, 10)])
        self.assertEqual(self.taken(SPLIT, erase(1, 0)).marks(), [(20, 15)])

    def test_points_that_still_have_lines_stay(self):
        table = self.taken(SPLIT, erase(0, 1))
        self.assertEqual(table.points(), [(0, 0), (10, 0), (30, 0), (0, 20), (10, 20), (30, 20)])
        self.assertEqual(len(table.lines()), 6)

    def test_several_lines_and_the_points_between_go(self):
        table = self.taken(BENT, erase(0, 1))
        self.assertEqual(table.points(), [(0, 0), (30, 0), (0, 5), (30, 5), (0, 15), (30, 15), (0, 20), (30, 20)])
        self.assertEqual(table.lines(), [(0, 1), (0, 2), (1, 3), (2, 4), (3, 5), (4, 5), (4, 6), (5, 7), (6, 7)])
        self.assertEqual(table.marks(), [(15, 2), (15, 17)])

    def test_a_lead_that_is_erased_again(self):
        begun = SPLIT + (lead([(10, 0), (20, 5), (10, 20)], 11, 5),)
        table = self.taken(begun, erase(1, 0))
        self.assertEqual(len(table.points()), 7)
        back = self.taken(begun, erase(2, 0))
        self.assertEqual(back.held(), self.taken(SPLIT[:1], SPLIT[1]).held())

    def test_the_numbers_are_those_of_the_marks(self):
        table = self.taken(THREE, erase(1, 0))
        # Between (5, 10) and (20, 5) lies the line (10, 0) (10, 10).
        self.assertEqual(len(table.lines()), 9)
        points = table.points()
        self.assertNotIn((points.index((10, 0)), points.index((10, 10))), table.lines())

    def test_a_pane_within_others(self):
        # The lower right part of the ring and the inner square share 2-3 and 3-5: (20, 10) goes.
        table = self.taken(RING, erase(0, 1))
        self.assertEqual(table.points(), [(0, 0), (30, 0), (10, 10), (10, 20), (20, 20), (0, 30), (30, 30)])
        self.assertEqual(table.lines(), [(0, 1), (0, 2), (0, 5), (1, 6), (2, 3), (3, 4), (4, 6), (5, 6)])
        self.assertEqual(table.marks(), [(15, 5), (15, 25)])


class Refused(Stepping):
    def test_no_record(self):
        self.assertEqual(last_told(erase(0, 1)), [-9])
        self.assertEqual(last_told(erase(MOST_ASKED, MOST_ASKED)), [-9])

    def test_the_same_pane_twice(self):
        self.refused(THREE, erase(1, 1), -2)
        self.refused(SPLIT[:1], erase(0, 0), -2)
        self.refused(THREE, erase(7, 7), -2)

    def test_no_such_pane(self):
        for i, j in ((0, 3), (3, 0), (3, 4), (0, MOST_ASKED), (MOST_ASKED, 0), (0, 4294967296)):
            self.refused(THREE, erase(i, j), -2)
        self.refused(SPLIT[:1], erase(0, 1), -2)

    def test_no_line_between(self):
        self.refused(BENT, erase(0, 2), -2)
        self.refused(BENT, erase(2, 0), -2)

    def test_a_point_in_common_is_no_line(self):
        begun = (bare(30, 20, 5, 15), lead([(10, 0), (10, 20)], 20, 15), lead([(10, 10), (30, 10)], 20, 5),
                 lead([(0, 10), (10, 10)], 5, 5))
        # Marks: (5, 5) (20, 5) (5, 15) (20, 15), round the point (10, 10).
        self.refused(begun, erase(0, 3), -2)
        self.refused(begun, erase(1, 2), -2)
        for i, j in ((0, 1), (0, 2), (1, 3), (2, 3)):
            self.taken(begun, erase(i, j))

    def test_rule_9_the_inner_pane_hangs_nowhere(self):
        # Without 0-2 and 5-7 the inner square is by itself: its least point is (10, 10).
        self.refused(RING, erase(0, 2), -5, 9, point_place(2))
        self.refused(RING, erase(2, 0), -5, 9, point_place(2))

    def test_rule_10_the_inner_pane_hangs_at_a_point(self):
        # Without the line 4-6 the two inner panes hang at (0, 0) alone.
        points = [(0, 0), (30, 0), (10, 5), (5, 10), (20, 20), (0, 30), (30, 30)]
        lines = [(0, 1), (0, 2), (0, 3), (0, 5), (1, 6), (2, 3), (2, 4), (3, 4), (4, 6), (5, 6)]
        marks = [(3, 3, 0, 0), (20, 10, 0, 0), (9, 9, 0, 0), (10, 20, 0, 0)]
        marks = sorted(marks, key=lambda mark: (mark[1], mark[0]))
        begun = (opened(cartoon_bytes(30, 30, points, lines, marks)),)
        # The panes of (20, 10) and (10, 20) share the line (20, 20) (30, 30) alone.
        self.assertEqual([mark[:2] for mark in marks], [(3, 3), (9, 9), (20, 10), (10, 20)])
        self.refused(begun, erase(2, 3), -5, 10, point_place(0))

    def test_a_refused_one_does_not_bar_the_next(self):
        table = Table(*RING)
        self.assertEqual(table.put(erase(0, 2)), [-5, 9, point_place(2)])
        self.assertEqual(table.put(erase(0, 1)), [0])
        self.assertEqual(table.held(), self.taken(RING, erase(0, 1)).held())


if __name__ == "__main__":
    unittest.main()
