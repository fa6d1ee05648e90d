"""Points 7 and 8: search, next, told, found."""

import unittest

from lines import FOUND, HIGHEST, NEXT, WELL, ask, begin, drop, last, search, test, told


def first_pool(n, d):
    return last(begin(n), search(d), NEXT)


def run(n, d, ill):
    """The pools that are told and who is found, where these are ill."""
    line = [begin(n), search(d)]
    pools = []
    for step in range(2000):
        pool = last(*line, NEXT)[1:]
        if not pool:
            return pools, last(*line, FOUND)
        pools.append(pool)
        line.append(told(int(any(person in ill for person in pool))))
    raise AssertionError("the search doesn't end")


class Search(unittest.TestCase):
    def test_d_up_to_n(self):
        for n in (1, 5, 1024):
            self.assertEqual(last(begin(n), search(0)), [0])
            self.assertEqual(last(begin(n), search(n)), [0])
            self.assertEqual(last(begin(n), search(n + 1)), [-1])
            self.assertEqual(last(begin(n), search(HIGHEST)), [-1])

    def test_refused_leaves_the_one_that_goes_on(self):
        line = (begin(8), search(1), told(1), told(1))
        plain = ask(*line, NEXT, FOUND)[-2:]
        self.assertEqual(ask(*line, search(9), NEXT, FOUND)[-3:], [[-1]] + plain)
        self.assertEqual(ask(begin(8), search(9), NEXT, told(0), FOUND)[1:], [[-1], [-2], [-2], [-2]])

    def test_again_begins_anew(self):
        self.assertEqual(ask(begin(4), search(1), told(1), told(1), told(1), FOUND, search(1), FOUND, NEXT)[-4:],
                         [[1, 0], [0], [0], [4, 0, 1, 2, 3]])

    def test_tests_that_are_kept_are_not_looked_at(self):
        line = (begin(4), test(0, [0, 1]), test(1, [2]), search(1), NEXT)
        self.assertEqual(last(*line), [4, 0, 1, 2, 3])
        self.assertEqual(ask(*line, told(1), test(0, [0]), drop(0), NEXT)[-1], [2, 0, 1])

    def test_tests_are_not_changed_by_what_is_told(self):
        self.assertEqual(ask(begin(4), search(1), told(0), WELL, test(0, [1]))[-2:], [[0], [0]])


class FirstPool(unittest.TestCase):
    def test_one_alone(self):
        for n, d in ((2, 2), (4, 3), (6, 4), (10, 6), (1024, 513), (1024, 1024)):
            self.assertEqual(first_pool(n, d), [1, 0], (n, d))

    def test_the_first_power_of_2(self):
        for n, d, size in ((1, 1, 1), (2, 1, 2), (3, 1, 2), (4, 1, 4), (7, 1, 4), (8, 1, 8), (1023, 1, 512),
                           (1024, 1, 1024), (3, 2, 1), (4, 2, 1), (5, 2, 2), (8, 2, 2), (9, 2, 4), (10, 3, 2),
                           (5, 3, 1), (14, 3, 4), (13, 3, 2), (1024, 2, 256), (1024, 512, 1), (1024, 4, 128)):
            self.assertEqual(first_pool(n, d), [size] + list(range(size)), (n, d))


class Halves(unittest.TestCase):
    def test_first_half_positive(self):
        self.assertEqual(ask(begin(8), search(1), told(1), NEXT, told(1), NEXT, told(1), NEXT)[3::2],
                         [[4, 0, 1, 2, 3], [2, 0, 1], [1, 0]])

    def test_first_half_negative(self):
        self.assertEqual(ask(begin(8), search(1), told(1), told(0), NEXT, told(0), NEXT, told(0), NEXT, FOUND)[4::2],
                         [[2, 4, 5], [1, 6], [0]])

    def test_second_half_is_unknown_again_before_the_others(self):
        # Of 9 with 2 ill the first 4 are a group; 0 is found, and 1, 2, 3 come before 4 to 8.
        line = (begin(9), search(2), told(1), told(1), told(1))
        self.assertEqual(ask(*line, FOUND, NEXT)[-2:], [[1, 0], [8, 1, 2, 3, 4, 5, 6, 7, 8]])

    def test_a_group_of_one_is_ill_at_once(self):
        self.assertEqual(ask(begin(3), search(3), NEXT, told(1), FOUND, NEXT)[2:], [[1, 0], [0], [1, 0], [1, 1]])

    def test_negative_first_pool_is_well(self):
        self.assertEqual(ask(begin(9), search(2), NEXT, told(0), NEXT, FOUND)[2:],
                         [[4, 0, 1, 2, 3], [0], [2, 4, 5], [0]])

    def test_a_group_with_nobody_else_unknown_goes_on(self):
        self.assertEqual(ask(begin(2), search(1), NEXT, told(1), NEXT, FOUND, told(0), NEXT, FOUND, told(0))[2:],
                         [[2, 0, 1], [0], [1, 0], [0], [0], [0], [1, 1], [-2]])

    def test_everybody_that_is_ill_is_found(self):
        for n, ill in ((1, [0]), (7, [6]), (16, [0, 1, 15]), (20, list(range(20))), (33, [4, 9, 10, 32]),
                       (1024, [0, 511, 512, 1023]), (1024, [])):
            for d in (len(ill), min(n, len(ill) + 3)):
                pools, found = run(n, d, ill)
                self.assertEqual(found, [len(ill)] + ill, (n, d))

    def test_one_of_1024_takes_eleven_tests_at_most(self):
        for ill in (0, 1, 511, 512, 1023):
            self.assertLessEqual(len(run(1024, 1, [ill])[0]), 11)

    def test_more_are_ill_than_may_be(self):
        pools, found = run(16, 2, [3, 7, 12])
        self.assertEqual(found, [2, 3, 7])

    def test_all_pools_of_a_whole_search(self):
        pools, found = run(10, 2, [2, 9])
        self.assertEqual(pools, [[0, 1, 2, 3], [0, 1], [2], [3, 4, 5, 6], [7, 8], [9]])
        self.assertEqual(found, [2, 2, 9])


class Over(unittest.TestCase):
    def test_before_a_search(self):
        self.assertEqual(ask(begin(4), NEXT, told(0), told(1), FOUND)[1:], [[-2]] * 4)

    def test_wrong_comes_first(self):
        for positive in (2, HIGHEST):
            self.assertEqual(last(begin(4), told(positive)), [-1])
            self.assertEqual(last(begin(4), search(0), told(positive)), [-1])
            self.assertEqual(ask(begin(4), search(1), told(positive), NEXT)[-2:], [[-1], [4, 0, 1, 2, 3]])

    def test_nobody_may_be_ill(self):
        self.assertEqual(ask(begin(4), search(0), NEXT, FOUND, told(0), told(1))[2:], [[0], [0], [-2], [-2]])

    def test_nobody_may_be_ill_any_more(self):
        line = (begin(4), search(1), told(1), told(1), told(1))
        self.assertEqual(ask(*line, NEXT, FOUND, told(0), told(1), NEXT, FOUND)[5:],
                         [[0], [1, 0], [-2], [-2], [0], [1, 0]])

    def test_nobody_is_unknown(self):
        self.assertEqual(ask(begin(4), search(1), told(0), NEXT, FOUND, told(1))[2:], [[0], [0], [0], [-2]])
        self.assertEqual(ask(begin(2), search(2), told(0), told(1), NEXT, FOUND, told(0))[2:],
                         [[0], [0], [0], [1, 1], [-2]])

    def test_next_and_found_change_nothing(self):
        self.assertEqual(ask(begin(8), search(1), NEXT, NEXT, FOUND, NEXT, told(1), FOUND, NEXT, NEXT)[2:],
                         [[8, 0, 1, 2, 3, 4, 5, 6, 7]] * 2 + [[0], [8, 0, 1, 2, 3, 4, 5, 6, 7], [0], [0]]
                         + [[4, 0, 1, 2, 3]] * 2)


if __name__ == "__main__":
    unittest.main()
