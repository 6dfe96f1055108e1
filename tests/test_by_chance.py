"""Calls and bytes by a seeded chance, each answered a second time by the oracle."""

import random
import unittest

from tests import chance as chances
from tests import oracle
from tests.tools import Table, opened, read, told


class ByChance(unittest.TestCase):
    def opens_alike(self, data):
        fault = oracle.judged(data)
        answer = [0] if fault is None else [-5, fault[0], fault[1]]
        self.assertEqual(told(opened(data)), [answer], data)
        return answer[1] if fault else 0

    def reads_alike(self, data):
        fault = oracle.Oracle().read_fault(data)
        answer = [0] if fault is None else [-5, fault[0], fault[1]]
        self.assertEqual(told(read(data)), [answer], data)
        return answer[1] if fault else 0

    def test_steps(self):
        seen = set()
        for seed in range(60):
            chance = random.Random(seed)
            table, other = Table(), oracle.Oracle()
            for n in range(60):
                call = chances.some_bare(chance) if other.data is None else chances.some_call(chance, other.data)
                answer = other.put(call)
                seen.add((call[0], tuple(answer[:2])))
                self.assertEqual(table.put(call), answer, (seed, n, call))
                if other.data is not None:
                    self.assertEqual(table.held(), other.data, (seed, n, call))
        self.assertGreater(len(seen), 25)

    def test_all_calls(self):
        seen = set()
        for seed in range(40):
            chance = random.Random(seed)
            table, other, saves, calls, expected = Table(), oracle.Oracle(), [], [], []
            for n in range(100):
                call = chances.any_call(chance, other.data, saves)
                answer = other.put(call)
                seen.add((call[0], tuple(answer[:1] if call[0] > 9 and answer[0] == 0 else answer[:2])))
                if call[0] == 12 and answer[0] == 0:
                    saves.append(answer[2:])
                calls.append(call)
                expected.append(answer)
                self.assertEqual(table.put(call), answer, (seed, n, call))
                self.assertEqual(table.state(), [other.put(asked) for asked in ([11], [12], [10, 0], [10, 1], [10, 2])])
            self.assertEqual(told(*calls), expected)
        self.assertEqual({number for number, answer in seen if answer[0] == 0}, set(range(1, 14)))
        for one in ((8, (0, 0)), (8, (0, 1)), (9, (0, 0)), (9, (0, 1)), (10, (-1,)), (8, (-9,)), (12, (-9,))):
            self.assertIn(one, seen)

    def test_spoiled_cartoons(self):
        rules = set()
        for seed in range(60):
            chance = random.Random(seed)
            data = chances.grown(chance, chance.randrange(25))
            self.assertEqual(self.opens_alike(data), 0)
            for n in range(30):
                rules.add(self.opens_alike(chances.spoiled(chance, data)))
        self.assertGreaterEqual(rules, {0, 1, 2, 3, 4, 5, 6, 7, 8, 11, 12, 13})

    def test_spoiled_records(self):
        rules = []
        for seed in range(30):
            chance = random.Random(seed)
            data = chances.some_record(chance, 40)
            self.assertEqual(self.reads_alike(data), 0)
            for n in range(60):
                rules.append(self.reads_alike(chances.spoiled_record(chance, data)))
        for rule in range(9):
            self.assertGreater(rules.count(rule), 4, rule)

    def test_scribbles(self):
        chance = random.Random(9)
        rules = {self.opens_alike(chances.scribbled(chance)) for n in range(2000)}
        self.assertGreaterEqual(rules, {0, 7, 8, 9, 10, 12})


if __name__ == "__main__":
    unittest.main()
