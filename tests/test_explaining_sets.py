"""Point 6: sets, least, certain."""

import unittest
from itertools import combinations
from math import comb

from lines import HIGHEST, ask, begin, certain, drop, fits, last, least, sets, test


def up_to(n, d):
    return sum(comb(n, k) for k in range(d + 1))


class Sets(unittest.TestCase):
    def test_without_tests_all_sets(self):
        for n in (1, 2, 3, 4, 5, 40, 1024):
            for d in range(5):
                self.assertEqual(last(begin(n), sets(d)), [0, up_to(n, d)])

    def test_one_pool(self):
        line = (begin(10), test(1, [2, 5, 7]))
        self.assertEqual([last(*line, sets(d))[1] for d in range(5)], [up_to(10, d) - up_to(7, d) for d in range(5)])

    def test_who_is_well_is_in_none(self):
        line = (begin(10), test(1, [2, 5, 7]), test(0, [7, 8, 9]))
        self.assertEqual([last(*line, sets(d))[1] for d in range(5)], [up_to(7, d) - up_to(5, d) for d in range(5)])

    def test_none(self):
        for tests in ([test(1, [])], [test(1, [0]), test(0, [0])], [test(1, [k]) for k in range(5)]):
            for d in range(5):
                self.assertEqual(last(begin(6), *tests, sets(d)), [0, 0])

    def test_d_above_4(self):
        for d in (5, 6, HIGHEST):
            self.assertEqual(last(begin(6), sets(d)), [-1])
            self.assertEqual(last(begin(6), test(1, []), sets(d)), [-1])

    def test_pools_that_share_nobody(self):
        line = [begin(1024)] + [test(1, range(k, 1024, 4)) for k in range(4)]
        self.assertEqual([last(*line, sets(d)) for d in range(5)], [[0, 0], [0, 0], [0, 0], [0, 0], [0, 256 ** 4]])

    def test_three_large_pools(self):
        line = [begin(1024)] + [test(1, range(k * 300, k * 300 + 300)) for k in range(3)]
        inside = 300 ** 3 * 124 + 3 * 300 * 300 * comb(300, 2)
        self.assertEqual([last(*line, sets(d))[1] for d in (2, 3, 4)], [0, 300 ** 3, 300 ** 3 + inside])

    def test_pools_that_all_but_one_are_in(self):
        line = [begin(60)] + [test(1, [p for p in range(60) if p != k]) for k in range(60)]
        self.assertEqual([last(*line, sets(d))[1] for d in range(5)], [up_to(60, d) - 1 - 60 * (d > 0) for d in range(5)])

    def test_somebody_is_in_all_of_many_pools(self):
        line = [begin(1024)] + [test(1, [500] + list(range(24 * k, 24 * k + 24))) for k in range(20)]
        self.assertEqual(last(*line, sets(4)), [0, up_to(1023, 3)])

    def test_asked_again_behind_a_change(self):
        self.assertEqual(ask(begin(5), sets(1), test(1, [0, 1]), sets(1), test(0, [0]), sets(1), drop(1), sets(1), drop(0),
                             sets(1), begin(3), sets(1))[1::2],
                         [[0, 6], [0, 2], [0, 1], [0, 2], [0, 6], [0, 4]])


class Least(unittest.TestCase):
    def test_the_empty_set(self):
        for d in range(5):
            self.assertEqual(last(begin(3), least(d)), [0])
            self.assertEqual(last(begin(3), test(0, [0, 1, 2]), least(d)), [0])

    def test_the_smaller_first(self):
        line = (begin(9), test(1, [0, 8]), test(1, [1, 8]))
        self.assertEqual(last(*line, least(1)), [1, 8])
        self.assertEqual(last(*line, least(4)), [1, 8])

    def test_in_the_order_of_a_dictionary(self):
        line = (begin(9), test(1, [7, 3, 5]), test(1, [6, 4, 2]))
        self.assertEqual(last(*line, least(2)), [2, 2, 3])
        line = (begin(9), test(1, [0, 3]), test(1, [3, 5, 8]), test(1, [7, 1]))
        self.assertEqual(last(*line, least(3)), [2, 1, 3])
        line = (begin(9), test(1, [0, 1]), test(1, [1, 2]), test(1, [2, 3]), test(1, [3, 4]))
        self.assertEqual(last(*line, least(4)), [2, 1, 3])
        line = (begin(9), test(1, [0, 5]), test(1, [1, 6]), test(1, [2, 7]), test(1, [5, 6, 7]))
        self.assertEqual(last(*line, least(4)), [3, 0, 1, 7])

    def test_four_far_apart(self):
        line = [begin(1024)] + [test(1, range(k, 1024, 4)) for k in range(4)]
        self.assertEqual(last(*line, least(4)), [4, 0, 1, 2, 3])
        line = [begin(1024)] + [test(1, range(k * 256 + 255, k * 256 + 200, -1)) for k in range(4)]
        self.assertEqual(last(*line, least(4)), [4, 201, 457, 713, 969])

    def test_none(self):
        for tests in ([test(1, [])], [test(1, [0]), test(0, [0])], [test(1, [k]) for k in range(5)]):
            for d in range(5):
                self.assertEqual(last(begin(6), *tests, least(d)), [-4])

    def test_none_so_small(self):
        line = (begin(6), test(1, [0]), test(1, [3]))
        self.assertEqual([last(*line, least(d)) for d in range(5)], [[-4], [-4], [2, 0, 3], [2, 0, 3], [2, 0, 3]])

    def test_d_above_4(self):
        for d in (5, HIGHEST):
            self.assertEqual(last(begin(6), least(d)), [-1])
            self.assertEqual(last(begin(6), test(1, []), least(d)), [-1])


class Certain(unittest.TestCase):
    def test_without_tests(self):
        self.assertEqual(last(begin(3), certain(0)), [0, 0, 1, 2, 1024])
        for d in (1, 2, 3, 4):
            self.assertEqual(last(begin(3), certain(d)), [0, 1024])

    def test_room_for_more(self):
        line = (begin(6), test(1, [3, 0]), test(0, [0, 5]))
        self.assertEqual(last(*line, certain(1)), [0, 0, 1, 2, 4, 5, 1024, 3])
        self.assertEqual(last(*line, certain(2)), [0, 0, 5, 1024, 3])

    def test_no_room_for_more(self):
        line = (begin(8), test(1, [1, 2]), test(1, [2, 3]), test(1, [5, 6]))
        self.assertEqual(last(*line, certain(2)), [0, 0, 1, 3, 4, 7, 1024, 2])
        self.assertEqual(last(*line, certain(3)), [0, 1024])

    def test_ill_in_all_by_the_number_of_ill_alone(self):
        line = (begin(5), test(1, [0, 1]), test(1, [0, 2]), test(1, [0, 3]))
        self.assertEqual(last(*line, certain(1)), [0, 1, 2, 3, 4, 1024, 0])
        self.assertEqual(last(*line, certain(2)), [0, 1024, 0])
        self.assertEqual(last(*line, certain(3)), [0, 1024])

    def test_everybody_is_told(self):
        line = [begin(1024)] + [test(1, [k]) for k in (1023, 512, 0)]
        others = [person for person in range(1024) if person not in (0, 512, 1023)]
        self.assertEqual(last(*line, certain(3)), [0] + others + [1024, 0, 512, 1023])
        self.assertEqual(last(*line, certain(4)), [0, 1024, 0, 512, 1023])

    def test_none(self):
        for tests in ([test(1, [])], [test(1, [0]), test(0, [0])], [test(1, [k]) for k in range(5)]):
            for d in range(5):
                self.assertEqual(last(begin(6), *tests, certain(d)), [-4])

    def test_d_above_4(self):
        for d in (5, HIGHEST):
            self.assertEqual(last(begin(6), certain(d)), [-1])
            self.assertEqual(last(begin(6), test(1, []), certain(d)), [-1])


class Together(unittest.TestCase):
    def test_a_thousand_people_and_eight_pools(self):
        pools = [{person for person in range(1024) if person * (2 * k + 3) % 17 < 8} for k in range(8)]
        line = [begin(1024)] + [test(1, sorted(pool)) for pool in pools]
        for d in (2, 3, 4):
            total = 0
            for size in range(len(pools) + 1):
                for missed in combinations(pools, size):
                    total += (-1) ** size * up_to(1024 - len(set().union(*missed)), d)
            self.assertEqual(last(*line, sets(d)), [0, total])

    def test_a_hundred_people_who_must_be_four(self):
        for count in (50, 70):
            pools = [{p for p in range(100) if ((p + 3) ** 3 * (k + 2) + 7 * k * k + 13 * p) % 101 < 36}
                     for k in range(count)]
            line = [begin(100)] + [test(1, sorted(pool)) for pool in pools]
            hits = [sum(1 << k for k in range(count) if person in pools[k]) for person in range(100)]
            every = (1 << count) - 1
            found = [some for some in combinations(range(100), 4)
                     if hits[some[0]] | hits[some[1]] | hits[some[2]] | hits[some[3]] == every]
            self.assertEqual(last(*line, sets(3)), [0, 0])
            self.assertEqual(last(*line, sets(4)), [0, len(found)])
            self.assertEqual(last(*line, least(4)), [4] + list(found[0]))
            inside = set().union(*found)
            always = set(found[0]).intersection(*found)
            self.assertEqual(last(*line, certain(4)),
                             [0] + [person for person in range(100) if person not in inside] + [1024] + sorted(always))

    def test_many_pools_that_overlap(self):
        # With 9 of 200 in each of 120 pools nobody is in enough of them for 4 people to do.
        line = [begin(200)] + [test(1, [(k * 7 + j * j) % 200 for j in range(9)]) for k in range(120)]
        self.assertEqual(ask(*line, sets(4), least(4), certain(4))[-3:], [[0, 0], [-4], [-4]])

    def test_least_fits_and_nothing_smaller_does(self):
        # Each pool has one of 17, 140 and 299, so that 3 do.
        line = [begin(300)]
        for k in range(40):
            pool = [person for person in range(300) if (person * (k + 3) + k) % 11 < 4]
            line.append(test(1, pool + [(17, 140, 299)[k % 3]]))
        first = last(*line, least(4))
        self.assertEqual(last(*line, fits(first[1:])), [1])
        self.assertEqual(last(*line, sets(first[0] - 1)), [0, 0])
        self.assertGreater(last(*line, sets(first[0]))[1], 0)


if __name__ == "__main__":
    unittest.main()
