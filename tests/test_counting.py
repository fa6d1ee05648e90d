"""Counting, for all people at once, in how many pools each is."""

import random
import unittest

from pooledtests.covers import crowd_of, in_at_least, in_at_most, people_of
from some_plans import HIGHEST


class Counting(unittest.TestCase):
    def test_as_one_by_one(self):
        for seed in range(200):
            chance = random.Random(seed)
            n = chance.choice((1, 5, 60))
            share = chance.choice((0.1, 0.5, 0.9))
            rows = [[person for person in range(n) if chance.random() < share]
                    for k in range(chance.choice((0, 1, 2, 31, 32, 33, 64, 65, 100, 300)))]
            counts = [sum(person in row for row in rows) for person in range(n)]
            pools = [crowd_of(row) for row in rows]
            some = [person for person in range(n) if chance.random() < 0.8]
            for bound in {0, 1, len(rows), HIGHEST} | set(counts) | {count - 1 for count in counts if count}:
                self.assertEqual(people_of(in_at_least(pools, crowd_of(some), bound)),
                                 [person for person in some if counts[person] >= bound])
                self.assertEqual(people_of(in_at_most(pools, crowd_of(some), bound)),
                                 [person for person in some if counts[person] <= bound])


if __name__ == "__main__":
    unittest.main()
