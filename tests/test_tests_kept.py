"""Points 1 to 3: begin, test, drop."""

import unittest

from lines import FOUND, HIGHEST, NEXT, WELL, ask, begin, certain, drop, fits, last, search, sets, test, told


class Begin(unittest.TestCase):
    def test_the_fewest_and_the_most_people(self):
        self.assertEqual(ask(begin(1)), [[0]])
        self.assertEqual(ask(begin(1024)), [[0]])
        self.assertEqual(ask(begin(1), test(0, [0]), WELL), [[0], [0], [1, 0]])
        self.assertEqual(ask(begin(1024), test(0, [1023]), WELL), [[0], [0], [1, 1023]])

    def test_none_or_too_many_people(self):
        for n in (0, 1025, HIGHEST):
            self.assertEqual(ask(begin(1), begin(n)), [[0], [-1]])

    def test_again_leaves_no_tests_and_no_search(self):
        before = (begin(6), test(0, [1, 2]), test(1, [3]), search(2), told(1))
        self.assertEqual(ask(*before, begin(4), WELL, NEXT, FOUND, told(0), sets(0), drop(0), test(0, [3]))[5:],
                         [[0], [0], [-2], [-2], [-2], [0, 1], [-1], [0]])

    def test_again_with_other_people(self):
        self.assertEqual(ask(begin(3), begin(5), test(0, [4]), fits([4])), [[0], [0], [0], [0]])
        self.assertEqual(ask(begin(5), begin(3), test(0, [3]), fits([3])), [[0], [0], [-1], [-1]])

    def test_refused_changes_nothing(self):
        before = (begin(6), test(0, [1, 2]), test(1, [2, 3]), search(2), told(1))
        after = (WELL, certain(1), NEXT, FOUND, fits([5]), fits([6]), test(1, [0]))
        plain = ask(*before, *after)[len(before):]
        for n in (0, 1025, HIGHEST):
            self.assertEqual(ask(*before, begin(n), *after)[len(before):], [[-1]] + plain)


class Test(unittest.TestCase):
    def test_numbers_from_0(self):
        self.assertEqual(ask(begin(3), test(1, [0]), test(0, [1]), test(1, [0, 2]))[1:], [[0], [1], [2]])

    def test_positive_above_1(self):
        for positive in (2, 3, HIGHEST):
            self.assertEqual(ask(begin(3), test(positive, [0]), test(0, [1]), WELL)[1:], [[-1], [0], [1, 1]])

    def test_somebody_from_n_on(self):
        self.assertEqual(last(begin(3), test(1, [2])), [0])
        self.assertEqual(last(begin(3), test(1, [3])), [-1])
        self.assertEqual(last(begin(3), test(0, [1023, 0])), [-1])
        self.assertEqual(ask(begin(3), test(0, [0, 3]), WELL, test(0, [1]))[1:], [[-1], [0], [0]])

    def test_empty_pool_is_kept(self):
        self.assertEqual(ask(begin(3), test(0, []), test(1, []), test(0, [1]))[1:], [[0], [1], [2]])

    def test_any_order_and_somebody_twice(self):
        self.assertEqual(last(begin(9), test(0, [7, 2, 7, 0, 2]), WELL), [3, 0, 2, 7])

    def test_a_pool_of_2000_numbers(self):
        pool = [person % 1000 for person in range(2000)]
        self.assertEqual(last(begin(1024), test(0, pool), WELL), [1000] + list(range(1000)))

    def test_1024_tests_and_one_more(self):
        line = [begin(4)] + [test(0, [1])] * 1024
        self.assertEqual(ask(*line)[1:], [[k] for k in range(1024)])
        self.assertEqual(ask(*line, test(0, [2]), WELL)[-2:], [[-2], [1, 1]])

    def test_wrong_comes_before_too_many(self):
        line = [begin(4)] + [test(0, [1])] * 1024
        self.assertEqual(last(*line, test(2, [2])), [-1])
        self.assertEqual(last(*line, test(0, [4])), [-1])
        self.assertEqual(last(*line, test(HIGHEST, [1023])), [-1])

    def test_room_again_behind_a_drop(self):
        line = [begin(4)] + [test(0, [1])] * 1024
        self.assertEqual(ask(*line, drop(5), test(0, [2]), test(0, [3]), WELL)[-4:], [[0], [1023], [-2], [2, 1, 2]])


class Drop(unittest.TestCase):
    three = (begin(5), test(0, [0]), test(0, [1]), test(0, [2]))

    def test_the_first_the_middle_and_the_last(self):
        self.assertEqual(ask(*self.three, drop(0), WELL)[-2:], [[0], [2, 1, 2]])
        self.assertEqual(ask(*self.three, drop(1), WELL)[-2:], [[0], [2, 0, 2]])
        self.assertEqual(ask(*self.three, drop(2), WELL)[-2:], [[0], [2, 0, 1]])

    def test_those_behind_move_up(self):
        self.assertEqual(ask(*self.three, drop(0), drop(0), WELL, drop(0), WELL)[-4:], [[0], [1, 2], [0], [0]])
        self.assertEqual(ask(*self.three, drop(1), drop(1), WELL)[-2:], [[0], [1, 0]])

    def test_the_number_of_the_next_test(self):
        self.assertEqual(ask(*self.three, drop(0), test(0, [4]), drop(2), WELL)[-3:], [[2], [0], [2, 1, 2]])

    def test_one_that_is_not_there(self):
        for k in (3, 4, HIGHEST):
            self.assertEqual(ask(*self.three, drop(k), WELL)[-2:], [[-1], [3, 0, 1, 2]])
        self.assertEqual(ask(begin(5), drop(0))[-1], [-1])
        self.assertEqual(ask(*self.three, drop(2), drop(2))[-2:], [[0], [-1]])

    def test_one_of_two_alike(self):
        self.assertEqual(ask(begin(5), test(0, [1]), test(0, [1]), drop(0), WELL, drop(0), WELL)[-3:],
                         [[1, 1], [0], [0]])


if __name__ == "__main__":
    unittest.main()
