"""The form of what goes in and out, and that nothing is kept or changed."""

import unittest

from glassrecord.desk import answers
from tests.tools import bare, cartoon_bytes, drop, erase, lead, mark, move, opened

FRAME = cartoon_bytes(30, 20, [(0, 0), (30, 0), (0, 20), (30, 20)], [(0, 1), (0, 2), (1, 3), (2, 3)], [(5, 5, 0, 0)])


class Form(unittest.TestCase):
    def test_one_call(self):
        self.assertEqual(answers([7, 0]), [1, -9])
        self.assertEqual(answers(bare(30, 20, 5, 5)), [1, 0])
        self.assertEqual(answers(opened([])), [3, -5, 1, 0])

    def test_calls_one_behind_another(self):
        calls = [drop(0), opened(FRAME), lead([(0, 9), (30, 9)], 9, 12), lead([], 1, 1), erase(0, 0),
                 move(9, 0, 0), mark(0, 30, 5), mark(1, 3, 15, 2, 1), opened(FRAME[:3]), drop(0), bare(30, 20, 1, 1)]
        expected = [1, -9, 1, 0, 1, 0, 1, -1, 1, -2, 1, -2, 3, -5, 11, 20 + 48 + 28, 1, 0, 3, -5, 1, 3, 3, -5, 6, 20,
                    1, 0]
        self.assertEqual(answers([number for call in calls for number in call]), expected)

    def test_a_list_of_whole_numbers(self):
        given = answers(bare(30, 20, 5, 5) + drop(0) + erase(0, 1))
        self.assertIs(type(given), list)
        self.assertEqual([type(number) for number in given], [int] * len(given))

    def test_rows_of_the_greatest_size(self):
        self.assertEqual(answers(bare(30, 20, 5, 5) + lead([(1, 1)] * 200, 1, 1)), [1, 0, 1, -1])
        self.assertEqual(answers(opened([255] * 29900)), [3, -5, 1, 0])

    def test_a_thousand_calls(self):
        calls = bare(30, 20, 5, 5)
        for n in range(999):
            calls += mark(0, 1 + n % 29, 1 + n % 19, n)
        self.assertEqual(answers(calls), [1, 0] * 1000)


class Kept(unittest.TestCase):
    def test_what_is_handed_in_stays(self):
        calls = opened(FRAME) + lead([(0, 9), (12, 9), (30, 9)], 9, 12) + move(3, 14, 9) + erase(0, 1) + drop(9)
        before = list(calls)
        answers(calls)
        self.assertEqual(calls, before)

    def test_what_is_given_back_is_new_each_time(self):
        calls = bare(30, 20, 5, 5)
        first = answers(calls)
        first.append(99)
        self.assertEqual(answers(calls), [1, 0])

    def test_nothing_is_kept_from_one_time_to_the_next(self):
        self.assertEqual(answers(bare(30, 20, 5, 5)), [1, 0])
        self.assertEqual(answers(drop(0)), [1, -9])
        self.assertEqual(answers(erase(0, 1)), [1, -9])

    def test_the_same_calls_have_the_same_answers(self):
        calls = opened(FRAME) + lead([(0, 9), (30, 9)], 9, 12) + mark(1, 2, 12) + drop(0)
        self.assertEqual(answers(calls), answers(calls))

    def test_answers_do_not_hang_on_what_comes_behind(self):
        calls = [opened(FRAME), lead([(0, 9), (30, 9)], 9, 12), erase(0, 1), drop(2)]
        whole = answers([number for call in calls for number in call])
        for count in range(1, len(calls)):
            part = answers([number for call in calls[:count] for number in call])
            self.assertEqual(whole[:len(part)], part)


class Deep(unittest.TestCase):
    def test_a_long_way_along_lines(self):
        # 62 * 30 points one behind another: a walk along them is far deeper than calls may be nested.
        calls = bare(100000, 70000, 5, 69999)
        for n in range(30):
            row = [(100000 * x // 63, 100 * (n + 1) + 30 * (x % 2)) for x in range(64)]
            calls += lead(row, 5, 100 * n + 60)
        self.assertEqual(answers(calls), [1, 0] * 31)


if __name__ == "__main__":
    unittest.main()
