"""Point 10: apart."""

import random
import unittest
from itertools import combinations

import plain_plans
from pooledtests.plans import apart
from some_plans import HIGHEST, all_but_one, everyone_alone, lines_of_a_plane, plan_at_random, rows_and_columns


class Apart(unittest.TestCase):
    def ask(self, n, d, rows):
        return apart(len(rows), n, d, rows)

    def test_everyone_alone(self):
        for n in (1, 2, 3, 40, 1024):
            self.assertEqual([self.ask(n, d, everyone_alone(n)) for d in range(3)], [[1], [1], [1]])

    def test_all_but_one(self):
        # Any two are in all the pools together.
        self.assertEqual([self.ask(2, d, all_but_one(2)) for d in range(3)], [[1], [1], [1]])
        self.assertEqual([self.ask(3, d, all_but_one(3)) for d in range(3)], [[1], [1], [0]])
        self.assertEqual([self.ask(9, d, all_but_one(9)) for d in range(3)], [[1], [1], [0]])

    def test_rows_and_columns(self):
        # The two ends of one diagonal of a square are in the same pools as those of the other.
        self.assertEqual([self.ask(16, d, rows_and_columns(4)) for d in range(3)], [[1], [1], [0]])

    def test_binary_digits(self):
        # Nobody has no digit 1 among 1 to 7, but 1 and 2 together have those of 3.
        rows = [[p - 1 for p in range(1, 8) if p >> k & 1] for k in range(3)]
        self.assertEqual([self.ask(7, d, rows) for d in range(3)], [[1], [1], [0]])
        self.assertEqual(self.ask(8, 1, rows), [0])

    def test_lines_of_a_plane(self):
        for q in (3, 5, 31):
            self.assertEqual([self.ask(q * q, d, lines_of_a_plane(q)) for d in range(3)], [[1], [1], [1]])

    def test_one_within_another(self):
        # 1 is wherever 0 is, so 1 alone says the same as both.
        self.assertEqual([self.ask(2, d, [[0, 1], [1]]) for d in range(3)], [[1], [1], [0]])

    def test_two_pairs_alone_are_the_same(self):
        # 0 and 1 hit all four pools, so do 2 and 3; no other sets are the same.
        rows = [[0, 2], [0, 3], [1, 2], [1, 3]]
        self.assertEqual([self.ask(4, d, rows) for d in range(3)], [[1], [1], [0]])
        self.assertEqual([self.ask(3, d, rows) for d in range(3)], [[1], [1], [1]])
        self.assertEqual([self.ask(4, d, rows + [[0]]) for d in range(3)], [[1], [1], [1]])

    def test_two_pairs_that_share_somebody_are_the_same(self):
        # With 0 beside them 1 and 2 differ in no pool.
        rows = [[0, 1], [0, 2], [1, 2]]
        self.assertEqual([self.ask(3, d, rows) for d in range(3)], [[1], [1], [0]])

    def test_the_last_ones_are_looked_at_too(self):
        rows = everyone_alone(1022) + [[1022, 1023]]
        self.assertEqual([self.ask(1024, d, rows) for d in range(3)], [[1], [0], [0]])
        rows = everyone_alone(1023) + [[1022, 1023]]
        self.assertEqual([self.ask(1024, d, rows) for d in range(3)], [[1], [1], [0]])

    def test_somebody_in_no_pool(self):
        self.assertEqual([self.ask(4, d, everyone_alone(3)) for d in range(3)], [[1], [0], [0]])

    def test_somebody_in_every_pool(self):
        rows = [[person, 3] for person in range(3)]
        self.assertEqual([self.ask(4, d, rows) for d in range(3)], [[1], [1], [0]])

    def test_two_people_in_the_very_same_pools(self):
        self.assertEqual([self.ask(4, d, [[0], [1], [2, 3], [2, 3, 0]]) for d in range(3)], [[1], [0], [0]])

    def test_a_pool_told_twice_and_empty_pools_say_nothing_more(self):
        for d in range(3):
            for rows in (everyone_alone(5), all_but_one(5), rows_and_columns(2)):
                self.assertEqual(self.ask(4, d, rows + rows + [[], []]), self.ask(4, d, rows))
        self.assertEqual([self.ask(1, d, [[]]) for d in range(3)], [[1], [0], [0]])

    def test_in_any_order_and_somebody_told_twice(self):
        self.assertEqual([self.ask(3, d, [[1, 0, 1], [2, 0, 0, 2], [2]]) for d in range(3)], [[1], [1], [0]])
        self.assertEqual([self.ask(3, d, [[1, 1, 1], [2, 0, 0, 2], [2]]) for d in range(3)], [[1], [1], [0]])
        self.assertEqual([self.ask(3, d, [[1, 1, 1], [0, 0], [2]]) for d in range(3)], [[1], [1], [1]])

    def test_people_from_n_on_are_not_looked_at(self):
        rows = [[0, 3, 1023], [1, 1023], [2, 3, 1023], [7], [1023]]
        self.assertEqual([self.ask(3, d, rows) for d in range(3)], [[1]] * 3)
        self.assertEqual([self.ask(4, d, rows) for d in range(3)], [[1], [1], [0]])
        # The pool of 3 alone does not tell 0 from 1.
        self.assertEqual([self.ask(2, d, [[0, 1], [0, 1, 3], [3]]) for d in range(3)], [[1], [0], [0]])

    def test_nobody(self):
        for d in range(3):
            self.assertEqual(self.ask(0, d, []), [1])
            self.assertEqual(self.ask(0, d, [[], [5, 6]]), [1])

    def test_one_person(self):
        self.assertEqual([self.ask(1, d, [[0]]) for d in range(3)], [[1], [1], [1]])
        self.assertEqual([self.ask(1, d, [[1]]) for d in range(3)], [[1], [0], [0]])

    def test_two_people(self):
        self.assertEqual([self.ask(2, d, [[0], [1]]) for d in range(3)], [[1], [1], [1]])
        self.assertEqual([self.ask(2, d, [[0]]) for d in range(3)], [[1], [0], [0]])

    def test_no_pools(self):
        for n in (1, 2, 1024):
            self.assertEqual([self.ask(n, d, []) for d in range(3)], [[1], [0], [0]])

    def test_1024_of_everything(self):
        # Where people and pools go round in a ring, two are told by where their stretches begin and end.
        rows = [[(first + k) % 1024 for k in range(93)] for first in range(1024)]
        self.assertEqual([self.ask(1024, d, rows) for d in range(3)], [[1], [1], [1]])
        rows = [[min(first + k, 1023) for k in range(93)] for first in range(1024)]
        self.assertEqual([self.ask(1024, d, rows) for d in range(3)], [[1], [1], [0]])

    def test_too_many(self):
        good = everyone_alone(2)
        for m in (1025, 1026, HIGHEST):
            self.assertEqual(apart(m, 2, 1, []), [-1])
        for n in (1025, HIGHEST):
            self.assertEqual(apart(2, n, 1, good), [-1])
            self.assertEqual(apart(2, n, 0, good), [-1])
        for d in (3, 4, HIGHEST):
            self.assertEqual(apart(2, 2, d, good), [-1])
            self.assertEqual(apart(0, 0, d, []), [-1])
        self.assertEqual(apart(HIGHEST, HIGHEST, HIGHEST, []), [-1])


class AgainstPlain(unittest.TestCase):
    def test_small_plans(self):
        for d in range(3):
            given = []
            for seed in range(400):
                chance = random.Random(seed)
                n = chance.randint(0, 8)
                rows = plan_at_random(chance, n, chance.choice((0, 2, 5, 9, 14, 20)), chance.choice((0.1, 0.2, 0.4, 0.7)))
                given.append(apart(len(rows), n, d, rows)[0])
                self.assertEqual([given[-1]], plain_plans.apart(len(rows), n, d, rows), (n, d, rows))
            self.assertGreater(given.count(1), 40)
            self.assertEqual(given.count(0) > 40, d > 0)

    def test_a_hundred_people(self):
        given = []
        for seed in range(40):
            chance = random.Random(seed)
            m = chance.choice((24, 32, 40, 60))
            rows = [chance.sample(range(100), 30) for k in range(m)]
            marks = [sum(1 << k for k in range(m) if person in rows[k]) for person in range(100)]
            said = [0] + marks + [one | other for one, other in combinations(marks, 2)]
            given.append(apart(m, 100, 2, rows)[0])
            self.assertEqual(given[-1], int(len(set(said)) == len(said)))
        self.assertGreater(given.count(0), 4)
        self.assertGreater(given.count(1), 4)


if __name__ == "__main__":
    unittest.main()
