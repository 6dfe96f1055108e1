"""What the tests of the five steps share."""

import unittest

from tests.tools import Table, bare, lead

ABOVE_LENGTH = 4294967296
ABOVE_KIND = 65536
MOST_ASKED = 8589934591

# Two panes, left and right of the line (10, 0) (10, 20).
# Points: (0, 0) (10, 0) (30, 0) (0, 20) (10, 20) (30, 20).
# Lines: 0-1 0-3 1-2 1-4 2-5 3-4 4-5. Marks: (5, 10) (20, 15).
SPLIT = (bare(30, 20, 5, 10), lead([(10, 0), (10, 20)], 20, 15))

# Three panes: the right one parted by (10, 10) (30, 10).
# Points: (0, 0) (10, 0) (30, 0) (10, 10) (30, 10) (0, 20) (10, 20) (30, 20).
# Lines: 0-1 0-5 1-2 1-3 2-4 3-4 3-6 4-7 5-6 6-7. Marks: (20, 5) (5, 10) (20, 15).
THREE = SPLIT + (lead([(10, 10), (30, 10)], 20, 5),)


def point_place(number):
    return 20 + 8 * number


def line_place(points, number):
    return 20 + 8 * points + 4 * number


def mark_place(points, lines, number):
    return 20 + 8 * points + 4 * lines + 12 * number


class Stepping(unittest.TestCase):
    def taken(self, begun, call):
        """Puts the call behind those that began; gives back the table."""
        table = Table(*begun)
        done = table.counts()[0]
        self.assertEqual(table.put(call), [0])
        self.assertEqual(table.counts()[:2], [done + 1, 0])
        return table

    def refused(self, begun, call, *answer):
        """Puts the call behind those that began, and sees that nothing is changed."""
        table = Table(*begun)
        before = table.state()
        self.assertEqual(table.put(call), list(answer))
        self.assertEqual(table.state(), before)
        self.assertEqual(table.put(call), list(answer))
