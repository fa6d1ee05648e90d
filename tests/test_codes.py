"""Point 11: codes."""

import unittest

import plain_plans
from pooledtests.plans import apart, codes, disjunct
from some_plans import HIGHEST, taken_apart

PRIMES = (2, 3, 5, 7, 11, 13, 17, 19, 23, 29, 31)


class Codes(unittest.TestCase):
    def test_four_people_by_lines_of_two_points(self):
        # 0, 1, x and x + 1: at 0 they are 0, 1, 0, 1 and at 1 they are 0, 1, 1, 0.
        self.assertEqual(codes(2, 2, 4), [4, 2, 0, 2, 2, 1, 3, 2, 0, 3, 2, 1, 2])

    def test_constants(self):
        # Whose polynomial is a constant is in that pool for each x.
        self.assertEqual(codes(3, 1, 3), [9] + [1, 0, 1, 1, 1, 2] * 3)
        self.assertEqual(codes(3, 4, 3), codes(3, 1, 3))

    def test_pools_with_nobody_in_them(self):
        self.assertEqual(codes(2, 1, 1), [4, 1, 0, 0, 1, 0, 0])
        self.assertEqual(codes(3, 2, 2), [9] + [1, 0, 1, 1, 0] * 3)
        self.assertEqual(codes(31, 4, 1), [961] + ([1, 0] + [0] * 30) * 31)

    def test_the_lowest_digit_is_the_constant(self):
        # 5 is 12 in base 3: x + 2.
        pools = taken_apart(codes(3, 2, 9))
        self.assertEqual([k for k in range(9) if 5 in pools[k]], [2, 3 + 0, 6 + 1])

    def test_all_four_coefficients(self):
        # 194 is 1234 in base 5: x^3 + 2 x^2 + 3 x + 4, which is 4, 0, 1, 3, 2 at 0 to 4, modulo 5.
        pools = taken_apart(codes(5, 4, 625))
        self.assertEqual([k for k in range(25) if 194 in pools[k]], [0 + 4, 5 + 0, 10 + 1, 15 + 3, 20 + 2])

    def test_lines(self):
        self.assertEqual(taken_apart(codes(7, 2, 49)), [sorted(row) for row in
                         [[i for i in range(49) if (i % 7 + i // 7 * x) % 7 == y] for x in range(7) for y in range(7)]])

    def test_each_is_in_one_pool_for_each_x(self):
        for q, k, n in ((2, 4, 16), (5, 3, 100), (31, 4, 1024), (29, 3, 1024)):
            pools = taken_apart(codes(q, k, n))
            for x in range(q):
                self.assertEqual(sorted(sum(pools[q * x:q * x + q], [])), list(range(n)))
            for pool in pools:
                self.assertEqual(pool, sorted(pool))

    def test_two_share_fewer_pools_than_coefficients(self):
        for q, k, n in ((5, 2, 25), (7, 3, 343), (11, 3, 1000)):
            pools = taken_apart(codes(q, k, n))
            left = q - (k - 1)
            self.assertEqual(disjunct(q * q, n, 1, left - 1, pools), [1])
            self.assertEqual(disjunct(q * q, n, 1, left, pools), [0])
            self.assertEqual(apart(q * q, n, 2, pools), [1])

    def test_as_many_as_there_are_polynomials(self):
        for q, k in ((2, 1), (2, 2), (2, 4), (3, 4), (5, 4), (31, 1), (31, 2), (7, 3)):
            self.assertEqual(codes(q, k, q ** k)[0], q * q)
            self.assertEqual(codes(q, k, q ** k + 1), [-1])

    def test_1024_people(self):
        for q, k in ((7, 4), (11, 3), (31, 3), (31, 4)):
            self.assertEqual(len(codes(q, k, 1024)), 1 + q * q + q * 1024)
            self.assertEqual(codes(q, k, 1025), [-1])
            self.assertEqual(codes(q, k, HIGHEST), [-1])

    def test_which_q(self):
        for q in range(60):
            self.assertEqual(codes(q, 2, 1) != [-1], q in PRIMES, q)
        for q in (37, 961, 1021, 65537, HIGHEST):
            self.assertEqual(codes(q, 2, 1), [-1])

    def test_which_k(self):
        for q in (2, 31):
            self.assertEqual([codes(q, k, 1) != [-1] for k in range(7)], [False, True, True, True, True, False, False])
            self.assertEqual(codes(q, HIGHEST, 1), [-1])

    def test_which_n(self):
        self.assertEqual(codes(5, 2, 0), [-1])
        self.assertEqual(codes(31, 4, 0), [-1])
        self.assertEqual(codes(5, 1, 1)[0], 25)

    def test_several_wrong(self):
        self.assertEqual(codes(0, 0, 0), [-1])
        self.assertEqual(codes(HIGHEST, HIGHEST, HIGHEST), [-1])


class AgainstPlain(unittest.TestCase):
    def test_each_q_and_k(self):
        for q in list(range(34)) + [37, HIGHEST]:
            for k in range(6):
                for n in (0, 1, 2, q, q * q, q * q * q, 100):
                    n = n if n < 60 or q < 8 else 60
                    self.assertEqual(codes(q, k, n), plain_plans.codes(q, k, n), (q, k, n))

    def test_the_largest(self):
        for q, k, n in ((5, 4, 625), (7, 4, 1024), (11, 3, 1024), (11, 4, 1024), (31, 2, 961)):
            self.assertEqual(codes(q, k, n), plain_plans.codes(q, k, n), (q, k, n))


if __name__ == "__main__":
    unittest.main()
