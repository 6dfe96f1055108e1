"""The document's own run, call by call."""

import unittest

from tests.tools import Table, bare, count, drop, erase, lead, move, redo, told, undo

RUN = (
    (bare(30, 20, 15, 2, 5), [0]),
    (lead([(0, 0), (10, 10), (30, 0)], 15, 15, 7), [0]),
    (lead([(0, 20), (10, 10)], 15, 10), [-5, 12, 112]),
    (lead([(0, 20), (10, 10)], 2, 10, 6), [0]),
    (move(2, 12, 10), [0]),
    (undo(), [0, 1]),
    (redo(), [0, 1]),
    (erase(0, 1), [0]),
    (drop(0), [-5, 6, 20]),
)


class Run(unittest.TestCase):
    def test_answers(self):
        self.assertEqual(told(*[call for call, answer in RUN]), [answer for call, answer in RUN])

    def test_what_is_held_on_the_way(self):
        table = Table()
        seen = []
        for call, answer in RUN:
            self.assertEqual(table.put(call), answer)
            seen.append((len(table.points()), len(table.lines()), table.marks()))
        self.assertEqual(seen, [
            (4, 4, [(15, 2)]),
            (5, 6, [(15, 2), (15, 15)]),
            (5, 6, [(15, 2), (15, 15)]),
            (5, 7, [(15, 2), (2, 10), (15, 15)]),
            (5, 7, [(15, 2), (2, 10), (15, 15)]),
            (5, 7, [(15, 2), (2, 10), (15, 15)]),
            (5, 7, [(15, 2), (2, 10), (15, 15)]),
            (5, 6, [(15, 2), (15, 15)]),
            (5, 6, [(15, 2), (15, 15)]),
        ])

    def test_how_many_panes(self):
        counted = [told(*[call for call, answer in RUN[:n]], count(2))[-1] for n in range(1, len(RUN) + 1)]
        self.assertEqual(counted, [[0, panes] for panes in (1, 2, 2, 3, 3, 3, 3, 2, 2)])

    def test_the_point_goes_back_and_forth(self):
        table = Table()
        seen = []
        for call, answer in RUN[:7]:
            table.put(call)
            seen.append(table.points()[2])
        self.assertEqual(seen[3:], [(10, 10), (12, 10), (10, 10), (12, 10)])


if __name__ == "__main__":
    unittest.main()
