"""bare: taken, and refused with -1 and -5."""

import unittest

from tests.tools import Table, bare, cartoon_bytes, last_told, lead, told

ABOVE_LENGTH = 4294967296
ABOVE_KIND = 65536


class Bare(unittest.TestCase):
    def refused(self, call, answer):
        table = Table(bare(30, 20, 15, 2, 5, 6), lead([(0, 5), (30, 5)], 9, 9))
        before = table.state()
        self.assertEqual(table.put(call), answer)
        self.assertEqual(table.state(), before)
        self.assertEqual(last_told(call), answer)

    def test_taken(self):
        self.assertEqual(told(bare(30, 20, 15, 2, 5, 6)), [[0]])

    def test_what_it_holds(self):
        points = [(0, 0), (30, 0), (0, 20), (30, 20)]
        lines = [(0, 1), (0, 2), (1, 3), (2, 3)]
        table = Table(bare(30, 20, 15, 2, 5, 6))
        self.assertEqual(table.held(), cartoon_bytes(30, 20, points, lines, [(15, 2, 5, 6)]))
        self.assertEqual(table.counts(), [0, 0, 1])

    def test_the_record_is_another_one(self):
        table = Table(bare(30, 20, 15, 2), lead([(0, 5), (30, 5)], 9, 9), bare(16, 17, 1, 1))
        self.assertEqual(table.points(), [(0, 0), (16, 0), (0, 17), (16, 17)])
        self.assertEqual(table.counts(), [0, 0, 1])

    def test_widths_and_heights_that_fit(self):
        for side in (16, 1048575):
            self.assertEqual(told(bare(side, 20, 1, 1), bare(20, side, 1, 1)), [[0], [0]])

    def test_glass_and_painting_that_fit(self):
        self.assertEqual(told(bare(30, 20, 1, 1, 65535, 65535)), [[0]])

    def test_each_number_too_great(self):
        for at, value in ((1, ABOVE_LENGTH), (2, ABOVE_LENGTH), (3, ABOVE_LENGTH), (4, ABOVE_LENGTH),
                          (5, ABOVE_KIND), (6, ABOVE_KIND)):
            for number in (value, 8589934591):
                call = bare(30, 20, 15, 2, 5, 6)
                call[at] = number
                self.refused(call, [-1])

    def test_the_greatest_numbers_are_judged(self):
        self.refused(bare(4294967295, 20, 1, 1), [-5, 2, 4])
        self.refused(bare(30, 4294967295, 1, 1), [-5, 2, 8])
        self.refused(bare(30, 20, 4294967295, 4294967295), [-5, 11, 68])

    def test_width_and_height_that_rule_2_refuses(self):
        for side in (0, 1, 15, 1048576):
            self.refused(bare(side, 20, 1, 1), [-5, 2, 4])
            self.refused(bare(30, side, 1, 1), [-5, 2, 8])
            self.refused(bare(side, side, 1, 1), [-5, 2, 4])

    def test_a_mark_on_the_frame_or_outside(self):
        for x, y in ((0, 5), (5, 0), (30, 5), (5, 20), (0, 0), (30, 20), (31, 5), (5, 21), (31, 21)):
            self.refused(bare(30, 20, x, y), [-5, 11, 68])

    def test_a_mark_next_to_the_frame(self):
        for x, y in ((1, 1), (29, 1), (1, 19), (29, 19)):
            self.assertEqual(told(bare(30, 20, x, y)), [[0]])

    def test_the_order_of_refusals(self):
        self.refused(bare(3, 3, 40, ABOVE_LENGTH), [-1])
        self.refused(bare(3, 3, 40, 40, 0, ABOVE_KIND), [-1])
        self.refused(bare(30, 3, 40, 40), [-5, 2, 8])


if __name__ == "__main__":
    unittest.main()
