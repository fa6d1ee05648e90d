"""Point 14: needed."""

import unittest

import plain_plans
from pooledtests.plans import needed
from some_plans import HIGHEST


class Needed(unittest.TestCase):
    def test_none_may_be_ill(self):
        for n in (0, 1, 2, 20, 600, 1024):
            self.assertEqual(needed(n, 0), [0])

    def test_one_may_be_ill(self):
        # n + 1 sets.
        self.assertEqual([needed(n, 1)[0] for n in range(1, 10)], [1, 2, 2, 3, 3, 3, 3, 4, 4])
        self.assertEqual([needed(n, 1) for n in (254, 255, 256, 1022, 1023, 1024)], [[8], [8], [9], [10], [10], [11]])

    def test_two_may_be_ill(self):
        # 1 + n + n (n - 1) / 2 sets: 11, 16, 22; 4006, 4096, 4187.
        self.assertEqual([needed(n, 2) for n in (4, 5, 6)], [[4], [4], [5]])
        self.assertEqual([needed(n, 2) for n in (89, 90, 91)], [[12], [12], [13]])
        self.assertEqual([needed(n, 2) for n in (2, 3, 600)], [[2], [3], [18]])

    def test_all_may_be_ill(self):
        for n in range(21):
            self.assertEqual(needed(n, n), [n])
            if n > 1:
                # One set fewer than 2^n.
                self.assertEqual(needed(n, n - 1), [n])

    def test_half_may_be_ill(self):
        # Half of all sets where n is odd.
        self.assertEqual([needed(n, n // 2) for n in (3, 7, 19)], [[2], [6], [18]])
        self.assertEqual(needed(20, 10), [20])
        self.assertEqual(needed(20, 9), [19])

    def test_many(self):
        self.assertEqual(needed(1024, 1024), [1024])
        self.assertEqual(needed(1024, 2), [20])
        self.assertEqual(needed(1023, 511), [1022])

    def test_nobody(self):
        self.assertEqual(needed(0, 0), [0])
        self.assertEqual(needed(0, 1), [-1])

    def test_d_above_n(self):
        for n in (0, 1, 20, 600, 1024):
            for d in (n + 1, n + 2, HIGHEST):
                self.assertEqual(needed(n, d), [-1])

    def test_n_above_1024(self):
        for n in (1025, HIGHEST):
            for d in (0, 1, 2, n):
                self.assertEqual(needed(n, d), [-1])
        self.assertEqual(needed(1025, HIGHEST), [-1])


class AgainstPlain(unittest.TestCase):
    def test_few_people(self):
        for n in range(24):
            for d in range(n + 2):
                self.assertEqual(needed(n, d), plain_plans.needed(n, d), (n, d))

    def test_few_ill(self):
        for n in range(1027):
            for d in (0, 1, 2):
                self.assertEqual(needed(n, d), plain_plans.needed(n, d), (n, d))


if __name__ == "__main__":
    unittest.main()
