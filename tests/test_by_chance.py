"""Calls and bytes by a seeded chance, each answered a second time by the oracle."""

import random
import unittest

from tests import chance as chances
from tests import oracle
from tests.tools import Table, opened, told


class ByChance(unittest.TestCase):
    def opens_alike(self, data):
        fault = oracle.judged(data)
        answer = [0] if fault is None else [-5, fault[0], fault[1]]
        self.assertEqual(told(opened(data)), [answer], data)
        return answer[1] if fault else 0

    def test_calls(self):
        seen = set()
        for seed in range(60):
            chance = random.Random(seed)
            table, other = Table(), oracle.Oracle()
            for n in range(60):
                call = chances.some_bare(chance) if other.data is None else chances.some_call(chance, other.data)
                answer = other.put(call)
                seen.add((call[0], tuple(answer[:2])))
                self.assertEqual(table.put(call), answer, (seed, n, call))
                if other.data is not None:
                    self.assertEqual(table.held(), other.data, (seed, n, call))
        self.assertGreater(len(seen), 25)

    def test_spoiled_cartoons(self):
        rules = set()
        for seed in range(60):
            chance = random.Random(seed)
            data = chances.grown(chance, chance.randrange(25))
            self.assertEqual(self.opens_alike(data), 0)
            for n in range(30):
                rules.add(self.opens_alike(chances.spoiled(chance, data)))
        self.assertGreaterEqual(rules, {0, 1, 2, 3, 4, 5, 6, 7, 8, 11, 12, 13})

    def test_scribbles(self):
        chance = random.Random(9)
        rules = {self.opens_alike(chances.scribbled(chance)) for n in range(2000)}
        self.assertGreaterEqual(rules, {0, 7, 8, 9, 10, 12})


if __name__ == "__main__":
    unittest.main()
