"""Points 4 and 5: well, ill, fits."""

import unittest

from lines import ILL, WELL, ask, begin, drop, fits, last, test


class Well(unittest.TestCase):
    def test_nobody_without_tests(self):
        self.assertEqual(last(begin(5), WELL), [0])

    def test_who_is_in_negative_pools(self):
        self.assertEqual(last(begin(8), test(0, [5, 1]), test(1, [2, 3]), test(0, [1, 0]), WELL), [3, 0, 1, 5])

    def test_positive_pools_make_nobody_well(self):
        self.assertEqual(last(begin(4), test(1, [0, 1, 2, 3]), WELL), [0])

    def test_told_also_where_tests_clash(self):
        self.assertEqual(last(begin(4), test(0, [1]), test(1, [1]), WELL), [1, 1])

    def test_everybody_of_1024(self):
        self.assertEqual(last(begin(1024), test(0, list(range(1023, -1, -1))), WELL), [1024] + list(range(1024)))


class Ill(unittest.TestCase):
    def test_nobody_without_tests(self):
        self.assertEqual(last(begin(5), ILL), [0])

    def test_alone_in_a_positive_pool(self):
        self.assertEqual(last(begin(5), test(1, [3]), ILL), [1, 3])
        self.assertEqual(last(begin(5), test(1, [3, 3]), ILL), [1, 3])

    def test_the_others_are_all_well(self):
        line = (begin(7), test(1, [6, 0, 2]), test(1, [1, 2]), test(0, [0, 2]), test(1, [3, 4]))
        self.assertEqual(last(*line, ILL), [2, 1, 6])

    def test_one_other_is_not_well(self):
        self.assertEqual(last(begin(7), test(1, [0, 1, 2]), test(0, [0]), ILL), [0])

    def test_who_is_certainly_ill_frees_nobody_else(self):
        self.assertEqual(last(begin(4), test(1, [0]), test(1, [0, 1]), ILL), [1, 0])

    def test_the_order_of_tests_is_all_the_same(self):
        self.assertEqual(last(begin(4), test(0, [0]), test(1, [0, 3]), ILL), [1, 3])
        self.assertEqual(last(begin(4), test(1, [0, 3]), test(0, [0]), ILL), [1, 3])

    def test_clash(self):
        self.assertEqual(last(begin(4), test(1, [0, 1]), test(0, [1]), test(0, [0]), ILL), [-3])
        self.assertEqual(last(begin(4), test(1, [2]), test(0, [1]), test(1, [1]), ILL), [-3])

    def test_an_empty_pool_that_is_positive_clashes(self):
        self.assertEqual(last(begin(4), test(1, []), ILL), [-3])
        self.assertEqual(last(begin(4), test(0, []), ILL), [0])

    def test_no_clash_any_more_behind_a_drop(self):
        self.assertEqual(ask(begin(4), test(0, [0]), test(1, [0]), ILL, drop(0), ILL)[3:], [[-3], [0], [1, 0]])

    def test_the_last_of_1024(self):
        self.assertEqual(last(begin(1024), test(1, range(1024)), test(0, range(1023)), ILL), [1, 1023])


class Fits(unittest.TestCase):
    tests = (begin(6), test(1, [0, 1]), test(0, [2]), test(1, [1, 3]))

    def test_explains(self):
        for some in ([1], [0, 3], [3, 0, 3], [1, 5, 4], [0, 1, 3]):
            self.assertEqual(last(*self.tests, fits(some)), [1], some)

    def test_does_not_explain(self):
        for some in ([], [0], [3], [1, 2], [2], [4, 5]):
            self.assertEqual(last(*self.tests, fits(some)), [0], some)

    def test_the_empty_set(self):
        self.assertEqual(last(begin(3), fits([])), [1])
        self.assertEqual(last(begin(3), test(0, [0, 1, 2]), fits([])), [1])
        self.assertEqual(last(begin(3), test(1, [0, 1, 2]), fits([])), [0])

    def test_empty_pools(self):
        self.assertEqual(last(begin(3), test(0, []), fits([0, 1])), [1])
        self.assertEqual(last(begin(3), test(1, []), fits([0, 1])), [0])

    def test_somebody_from_n_on(self):
        self.assertEqual(last(*self.tests, fits([1, 5])), [1])
        self.assertEqual(last(*self.tests, fits([1, 6])), [-1])
        self.assertEqual(last(*self.tests, fits([1023])), [-1])

    def test_more_than_four(self):
        self.assertEqual(last(begin(1024), test(1, [700]), fits(list(range(1024)) * 1)), [1])
        self.assertEqual(last(begin(9), test(1, [8]), fits([0, 1, 2, 3, 4, 5, 6, 7])), [0])


if __name__ == "__main__":
    unittest.main()
