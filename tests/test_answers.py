"""The form of what goes in and out, and that nothing is kept or changed."""

import unittest

from glassrecord.desk import Desk, answers
from tests.records import CARTOONS, FIRST, STEPS, WHOLE
from tests.tools import (
    bare, cartoon_bytes, count, drop, erase, lead, mark, move, opened, plan, read, record_saved, redo, save, told, undo)

FRAME = cartoon_bytes(30, 20, [(0, 0), (30, 0), (0, 20), (30, 20)], [(0, 1), (0, 2), (1, 3), (2, 3)], [(5, 5, 0, 0)])


class Form(unittest.TestCase):
    def test_one_call(self):
        self.assertEqual(answers([7, 0]), [1, -9])
        self.assertEqual(answers(bare(30, 20, 5, 5)), [1, 0])
        self.assertEqual(answers(opened([])), [3, -5, 1, 0])

    def test_calls_one_behind_another(self):
        calls = [drop(0), opened(FRAME), lead([(0, 9), (30, 9)], 9, 12), lead([], 1, 1), erase(0, 0),
                 move(9, 0, 0), mark(0, 30, 5), mark(1, 3, 15, 2, 1), opened(FRAME[:3]), drop(0), bare(30, 20, 1, 1)]
        expected = [1, -9, 1, 0, 1, 0, 1, -1, 1, -2, 1, -2, 3, -5, 11, 20 + 48 + 28, 1, 0, 3, -5, 1, 3, 3, -5, 6, 20,
                    1, 0]
        self.assertEqual(answers([number for call in calls for number in call]), expected)

    def test_a_list_of_whole_numbers(self):
        given = answers(bare(30, 20, 5, 5) + drop(0) + erase(0, 1))
        self.assertIs(type(given), list)
        self.assertEqual([type(number) for number in given], [int] * len(given))

    def test_rows_of_the_greatest_size(self):
        self.assertEqual(answers(bare(30, 20, 5, 5) + lead([(1, 1)] * 200, 1, 1)), [1, 0, 1, -1])
        self.assertEqual(answers(opened([255] * 29900)), [3, -5, 1, 0])

    def test_a_thousand_calls(self):
        calls = bare(30, 20, 5, 5)
        for n in range(999):
            calls += mark(0, 1 + n % 29, 1 + n % 19, n)
        self.assertEqual(answers(calls), [1, 0] * 1000)


# All thirteen calls, and what each of them answers.
SAVED = record_saved(CARTOONS[0], STEPS[:4], STEPS[4:])
EVERY = (
    (plan(), [-9]),
    (opened(CARTOONS[1]), [0]),
    (lead([(0, 3), (10, 3)], 1, 1), [0]),
    (erase(0, 1), [0]),
    (read(SAVED), [0]),
    (save(), [0, len(SAVED)] + SAVED),
    (redo(), [0, 1]),
    (count(2), [0, 2]),
    (undo(), [0, 1]),
    (undo(), [0, 1]),
    (count(0), [0, 3]),
    (count(1), [0, WHOLE - 3]),
    (count(3), [-1]),
    (plan(), [0, len(CARTOONS[3])] + CARTOONS[3]),
    (drop(5), [0]),
    (redo(), [0, 0]),
    (mark(0, 20, 4), [0]),
    (move(9, 1, 1), [-2]),
    (read(SAVED[:20]), [-5, 3, 20]),
    (bare(30, 20, 5, 10, 1, 2), [0]),
    (undo(), [0, 0]),
    (save(), [0, 96] + record_saved(CARTOONS[0])),
)


class Every(unittest.TestCase):
    def test_every_call_in_one_list(self):
        self.assertEqual({call[0] for call, answer in EVERY}, set(range(1, 14)))
        calls = [number for call, answer in EVERY for number in call]
        expected = [number for call, answer in EVERY for number in [len(answer)] + answer]
        before = list(calls)
        self.assertEqual(answers(calls), expected)
        self.assertEqual(calls, before)
        self.assertEqual(answers(calls), expected)

    def test_any_call_first(self):
        self.assertEqual([told(call)[0] for call in (lead([(0, 0)], 1, 1), erase(0, 0), move(0, 0, 0), mark(0, 0, 0),
                                                     drop(0), undo(), redo(), count(9), plan(), save())], [[-9]] * 10)
        self.assertEqual([told(call)[0] for call in (opened(CARTOONS[3]), FIRST, read(SAVED))], [[0]] * 3)

    def test_whole_numbers_alone(self):
        given = answers(FIRST + STEPS[0] + undo() + redo() + redo() + count(0) + count(1) + count(2) + plan() + save())
        self.assertEqual({type(number) for number in given}, {int})

    def test_many_calls_of_all_kinds(self):
        calls = [FIRST]
        while len(calls) + len(EVERY) < 100:
            calls += [call for call, answer in EVERY[1:]]
        expected = [[0]] + [answer for call, answer in EVERY[1:]] * ((len(calls) - 1) // (len(EVERY) - 1))
        self.assertEqual(told(*calls), expected)

    def test_a_thousand_calls_of_one_number(self):
        self.assertEqual(told(FIRST, *[undo()] * 999), [[0]] + [[0, 0]] * 999)
        steps = [mark(0, 1 + n % 29, 1, n) for n in range(300)]
        rows = told(FIRST, *steps, *[undo()] * 350, *[redo()] * 349)
        self.assertEqual(rows[301:], [[0, 1]] * 300 + [[0, 0]] * 50 + [[0, 1]] * 300 + [[0, 0]] * 49)

    def test_many_numbers_are_answered(self):
        data = CARTOONS[-1]
        given = answers(opened(data) + plan() * 500 + save() * 499)
        self.assertEqual(len(given), 2 + 500 * (3 + len(data)) + 499 * (3 + 16 + len(data)))


class Kept(unittest.TestCase):
    def test_what_is_handed_in_stays(self):
        calls = opened(FRAME) + lead([(0, 9), (12, 9), (30, 9)], 9, 12) + move(3, 14, 9) + erase(0, 1) + drop(9)
        before = list(calls)
        answers(calls)
        self.assertEqual(calls, before)

    def test_what_is_given_back_is_new_each_time(self):
        calls = bare(30, 20, 5, 5)
        first = answers(calls)
        first.append(99)
        self.assertEqual(answers(calls), [1, 0])

    def test_the_bytes_told_are_new_each_time(self):
        desk = Desk()
        desk.answer(2, [30, 20, 5, 10, 1, 2], [])
        for call in (11, 12):
            told_first = desk.answer(call, [], [])
            kept = list(told_first)
            told_first[2:] = [0] * 9
            self.assertEqual(desk.answer(call, [], []), kept)

    def test_rows_handed_in_stay(self):
        for call, row in ((1, list(CARTOONS[3])), (13, list(SAVED)), (13, SAVED[:40]), (13, SAVED + [1])):
            before = list(row)
            desk = Desk()
            desk.answer(call, [], row)
            for number in (8, 9, 11, 12):
                desk.answer(number, [], [])
            self.assertEqual(row, before)

    def test_nothing_is_kept_from_one_time_to_the_next(self):
        self.assertEqual(answers(bare(30, 20, 5, 5)), [1, 0])
        self.assertEqual(answers(drop(0)), [1, -9])
        self.assertEqual(answers(erase(0, 1)), [1, -9])

    def test_the_same_calls_have_the_same_answers(self):
        calls = opened(FRAME) + lead([(0, 9), (30, 9)], 9, 12) + mark(1, 2, 12) + drop(0)
        self.assertEqual(answers(calls), answers(calls))

    def test_answers_do_not_hang_on_what_comes_behind(self):
        calls = [opened(FRAME), lead([(0, 9), (30, 9)], 9, 12), erase(0, 1), drop(2)]
        whole = answers([number for call in calls for number in call])
        for count in range(1, len(calls)):
            part = answers([number for call in calls[:count] for number in call])
            self.assertEqual(whole[:len(part)], part)


class Deep(unittest.TestCase):
    def test_a_long_way_along_lines(self):
        # 62 * 30 points one behind another: a walk along them is far deeper than calls may be nested.
        calls = bare(100000, 70000, 5, 69999)
        for n in range(30):
            row = [(100000 * x // 63, 100 * (n + 1) + 30 * (x % 2)) for x in range(64)]
            calls += lead(row, 5, 100 * n + 60)
        self.assertEqual(answers(calls), [1, 0] * 31)


if __name__ == "__main__":
    unittest.main()
