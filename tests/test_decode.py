"""Point 12: decode."""

import random
import unittest

import plain_plans
from pooledtests.plans import codes, decode
from some_plans import HIGHEST, everyone_alone, plan_at_random, taken_apart


class Decode(unittest.TestCase):
    def ask(self, n, e, said, rows):
        return decode(len(rows), n, e, said, rows)

    def test_who_is_in_no_negative_pool(self):
        rows = [[0, 1, 2], [2, 3], [4, 0], [5]]
        self.assertEqual(self.ask(7, 0, [1, 0, 1, 0], rows), [4, 0, 1, 4, 6])
        self.assertEqual(self.ask(7, 0, [0, 1, 1, 1], rows), [4, 3, 4, 5, 6])

    def test_so_many_negative_pools_are_borne(self):
        rows = [[0, 1, 2, 3], [0, 1, 2], [0, 1], [0]]
        for e in range(4):
            self.assertEqual(self.ask(5, e, [0, 0, 0, 0], rows), [e + 1] + list(range(4 - e, 5)))
        self.assertEqual(self.ask(5, 1, [0, 1, 0, 0], rows), [3, 2, 3, 4])
        self.assertEqual(self.ask(5, 2, [0, 1, 0, 0], rows), [4, 1, 2, 3, 4])

    def test_the_ill_are_found_though_some_tests_lie(self):
        # Of 31 pools two share one, so 3 ill make at most 3 pools of somebody well positive.
        pools = taken_apart(codes(31, 2, 961))
        ill = [17, 500, 960]
        said = [int(any(person in pool for person in ill)) for pool in pools]
        for e in range(28):
            self.assertEqual(self.ask(961, e, said, pools), [3] + ill)
        for k in range(5):
            said[[j for j in range(961) if 500 in pools[j]][k]] = 0
        self.assertEqual(self.ask(961, 4, said, pools), [2, 17, 960])
        self.assertEqual(self.ask(961, 5, said, pools), [3] + ill)

    def test_nothing_is_negative(self):
        rows = [[0, 1], [], [2]]
        for e in (0, 1, HIGHEST):
            self.assertEqual(self.ask(4, e, [1, 1, 1], rows), [4, 0, 1, 2, 3])

    def test_everything_is_negative(self):
        rows = [[0, 1], [], [2, 0]]
        self.assertEqual(self.ask(4, 0, [0, 0, 0], rows), [1, 3])
        self.assertEqual(self.ask(4, 1, [0, 0, 0], rows), [3, 1, 2, 3])
        self.assertEqual(self.ask(4, 2, [0, 0, 0], rows), [4, 0, 1, 2, 3])

    def test_nobody_is_left(self):
        self.assertEqual(self.ask(3, 0, [0, 1], [[0, 1, 2], [0, 1, 2]]), [0])

    def test_an_empty_pool_says_nothing(self):
        for said in (0, 1):
            self.assertEqual(self.ask(2, 0, [said], [[]]), [2, 0, 1])

    def test_in_any_order_and_somebody_told_twice(self):
        self.assertEqual(self.ask(5, 0, [0, 1], [[3, 1, 3], [4, 4, 0]]), [3, 0, 2, 4])
        self.assertEqual(self.ask(5, 1, [0, 1], [[3, 1, 3, 3], [4, 4, 0]]), [5, 0, 1, 2, 3, 4])

    def test_a_pool_that_is_told_twice_counts_twice(self):
        rows = [[0], [1], [0]]
        self.assertEqual(self.ask(2, 1, [0, 0, 0], rows), [1, 1])
        self.assertEqual(self.ask(2, 1, [0, 0, 1], rows), [2, 0, 1])
        self.assertEqual(self.ask(2, 0, [1, 0, 0], rows), [0])

    def test_people_from_n_on_are_not_told(self):
        rows = [[0, 5, 1023], [7], [2, 3]]
        self.assertEqual(self.ask(3, 0, [0, 1, 1], rows), [2, 1, 2])
        self.assertEqual(self.ask(3, 0, [1, 0, 0], rows), [2, 0, 1])
        self.assertEqual(self.ask(3, 0, [1, 1, 1], rows), [3, 0, 1, 2])

    def test_no_pools(self):
        for n in (0, 1, 2, 1024):
            for e in (0, HIGHEST):
                self.assertEqual(self.ask(n, e, [], []), [n] + list(range(n)))

    def test_nobody(self):
        self.assertEqual(self.ask(0, 0, [0, 1], [[0, 1], [2]]), [0])

    def test_one_person_and_one_pool(self):
        self.assertEqual(self.ask(1, 0, [0], [[0]]), [0])
        self.assertEqual(self.ask(1, 0, [1], [[0]]), [1, 0])
        self.assertEqual(self.ask(1, 1, [0], [[0]]), [1, 0])

    def test_1024_of_everything(self):
        said = [person % 3 % 2 for person in range(1024)]
        positive = [person for person in range(1024) if said[person]]
        self.assertEqual(self.ask(1024, 0, said, everyone_alone(1024)), [len(positive)] + positive)
        self.assertEqual(self.ask(1024, 1, said, everyone_alone(1024)), [1024] + list(range(1024)))

    def test_e_of_m_and_above(self):
        rows = [[0, 1]] * 1024
        self.assertEqual(self.ask(3, 1023, [0] * 1024, rows), [1, 2])
        for e in (1024, 1025, HIGHEST):
            self.assertEqual(self.ask(3, e, [0] * 1024, rows), [3, 0, 1, 2])

    def test_too_many(self):
        for m in (1025, HIGHEST):
            self.assertEqual(decode(m, 2, 0, [], []), [-1])
            self.assertEqual(decode(m, 0, HIGHEST, [], []), [-1])
        for n in (1025, HIGHEST):
            self.assertEqual(decode(2, n, 0, [0, 1], [[0], [1]]), [-1])
            self.assertEqual(decode(0, n, 0, [], []), [-1])
        self.assertEqual(decode(HIGHEST, HIGHEST, HIGHEST, [], []), [-1])


class AgainstPlain(unittest.TestCase):
    def test_plans_at_random(self):
        for seed in range(400):
            chance = random.Random(seed)
            n = chance.choice((0, 1, 5, 20, 90))
            m = chance.choice((0, 1, 5, 31, 32, 33, 70, 130))
            rows = plan_at_random(chance, n, m, chance.choice((0.1, 0.5, 0.9)))
            share = chance.choice((0, 0.2, 0.5, 1))
            said = [int(chance.random() < share) for k in range(m)]
            for e in (0, 1, m // 4, m // 2, m - 1 if m else 0, m, m + 1):
                self.assertEqual(decode(m, n, e, said, rows), plain_plans.decode(m, n, e, said, rows), (n, e, said, rows))


if __name__ == "__main__":
    unittest.main()
