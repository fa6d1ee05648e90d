"""Point 13: size."""

import random
import unittest

import plain_plans
from pooledtests.plans import size
from some_plans import HIGHEST


class Size(unittest.TestCase):
    def test_so_many_percent(self):
        for percent, best in ((1, 11), (2, 8), (3, 6), (4, 6), (5, 5), (6, 5), (7, 4), (8, 4), (9, 4), (10, 4), (12, 4),
                              (13, 3), (15, 3), (20, 3), (25, 3), (30, 3)):
            self.assertEqual(size(percent, 100), [best], percent)

    def test_where_it_is_best_to_test_alone(self):
        self.assertEqual(size(306, 1000), [3])
        self.assertEqual(size(307, 1000), [1])
        self.assertEqual(size(20095, 65535), [3])
        self.assertEqual(size(20096, 65535), [1])
        for num, den in ((1, 3), (1, 2), (2, 3), (999, 1000), (65534, 65535)):
            self.assertEqual(size(num, den), [1])

    def test_two_is_never_best(self):
        for num in range(0, 65536, 37):
            self.assertNotEqual(size(num, 65535), [2])

    def test_where_the_greatest_is_best(self):
        self.assertEqual(size(16, 65535), [64])
        self.assertEqual(size(17, 65535), [63])
        for den in (4096, 8000, 65535):
            self.assertEqual(size(1, den), [64])
        self.assertEqual(size(1, 1000), [32])

    def test_nobody_is_ill(self):
        for den in (1, 2, 100, 65535):
            self.assertEqual(size(0, den), [64])

    def test_everybody_is_ill(self):
        for den in (1, 2, 100, 65535):
            self.assertEqual(size(den, den), [1])

    def test_the_same_share_in_other_numbers(self):
        for num, den in ((1, 10), (3, 100), (1, 300)):
            for times in (2, 7, 200):
                self.assertEqual(size(num * times, den * times), size(num, den))

    def test_each_change_of_the_best(self):
        changes = [(17, 63), (18, 61), (19, 59), (20, 58), (31, 46), (33, 45), (44, 39), (65, 32), (98, 26), (165, 20),
                   (257, 16), (457, 12), (545, 11), (660, 10), (815, 9), (1034, 8), (1355, 7), (1854, 6), (2695, 5),
                   (4299, 4), (8123, 3), (20096, 1)]
        for num, best in changes:
            self.assertEqual(size(num, 65535), [best])
            self.assertGreater(size(num - 1, 65535)[0], best)

    def test_refused(self):
        for num, den in ((2, 1), (101, 100), (65536, 65535), (HIGHEST, 1), (HIGHEST, 65535)):
            self.assertEqual(size(num, den), [-1])
        for num in (0, 1, HIGHEST):
            self.assertEqual(size(num, 0), [-1])
        for den in (65536, 65537, HIGHEST):
            for num in (0, 1, den):
                self.assertEqual(size(num, den), [-1])
        self.assertEqual(size(HIGHEST, 65536), [-1])


class AgainstPlain(unittest.TestCase):
    def test_each_share_of_small_numbers(self):
        for den in range(33):
            for num in range(den + 2):
                self.assertEqual(size(num, den), plain_plans.size(num, den), (num, den))

    def test_shares_at_random(self):
        chance = random.Random(13)
        for k in range(150):
            den = chance.randint(1, 65535)
            num = chance.randint(0, chance.choice((den, den // 3, den // 20, den // 1000)))
            self.assertEqual(size(num, den), plain_plans.size(num, den), (num, den))

    def test_two_sizes_are_never_just_as_good(self):
        # Were s and s + u just as good where a in b are well, in lowest terms and a of 1 to b - 1, then u b^(s + u)
        # would be s (s + u) a^s (b^u - a^u). So u is a multiple of b^u - a^u, which is more than u but for u of 1 and
        # b = a + 1; then of a^s, so a is 1, b is 2, and 2^(s + 1) is s (s + 1): not so for s of 2 or more. Nor is
        # 1 alone as good as s: then s would be (b / a)^s. That the least is told can't be seen, then.
        for den in range(1, 25):
            for num in range(den + 1):
                costs = plain_plans.group_costs(num, den)
                self.assertEqual(len(set(costs)), 64, (num, den))


if __name__ == "__main__":
    unittest.main()
