"""Point 15: where several answers below 0 can be due, -1 comes first, then -2, then -3, -4."""

import unittest

from lines import FOUND, HIGHEST, ILL, NEXT, ask, begin, certain, drop, last, least, search, sets, test, told
from pooledtests import plans


class OfTheBook(unittest.TestCase):
    def test_a_wrong_test_where_there_is_no_room(self):
        full = [begin(4)] + [test(0, [])] * 1024
        self.assertEqual(last(*full, test(1, [3])), [-2])
        for wrong in (test(2, [3]), test(HIGHEST, []), test(1, [4]), test(0, [0, 1023]), test(2, [4])):
            self.assertEqual(last(*full, wrong), [-1])
            self.assertEqual(last(*full, wrong, drop(1024)), [-1])

    def test_wrongly_told_where_no_search_has_begun(self):
        for positive in (0, 1):
            self.assertEqual(last(begin(4), told(positive)), [-2])
        for positive in (2, HIGHEST):
            self.assertEqual(last(begin(4), told(positive)), [-1])

    def test_wrongly_told_where_it_is_over(self):
        for line in ([search(0)], [search(1), told(0)], [search(1), told(1), told(1), told(1)]):
            self.assertEqual(ask(begin(4), *line, NEXT, told(2), told(HIGHEST), told(1), told(0), NEXT)[len(line) + 1:],
                             [[0], [-1], [-1], [-2], [-2], [0]])

    def test_a_search_that_is_refused_is_not_begun(self):
        self.assertEqual(ask(begin(4), search(5), NEXT, FOUND, told(2), told(1))[1:], [[-1], [-2], [-2], [-1], [-2]])

    def test_too_many_ill_where_none_explain_the_tests(self):
        for tests in ([test(1, [])], [test(1, [0]), test(0, [0])], [test(1, [k]) for k in range(5)]):
            for call in (least, certain):
                self.assertEqual([last(begin(5), *tests, call(d)) for d in (0, 4, 5, HIGHEST)], [[-4], [-4], [-1], [-1]])
            self.assertEqual([last(begin(5), *tests, sets(d)) for d in (0, 4, 5, HIGHEST)], [[0, 0], [0, 0], [-1], [-1]])

    def test_where_tests_clash(self):
        clash = (begin(5), test(1, [0]), test(0, [0]))
        self.assertEqual(ask(*clash, ILL, least(4), certain(4), least(5), certain(5), told(2), told(0))[3:],
                         [[-3], [-4], [-4], [-1], [-1], [-1], [-2]])


class OfPlans(unittest.TestCase):
    def test_several_numbers_out_of_range(self):
        high = HIGHEST
        for given in (plans.disjunct(high, high, high, high, []), plans.disjunct(0, 1025, 4, 0, []),
                      plans.disjunct(1025, 0, 4, 0, []), plans.disjunct(1025, 1025, 0, 0, []),
                      plans.apart(high, high, high, []), plans.apart(0, 1025, 3, []), plans.apart(1025, 0, 3, []),
                      plans.codes(high, high, high), plans.codes(4, 0, 0), plans.codes(4, 5, 1), plans.codes(2, 5, 1025),
                      plans.decode(high, high, high, [], []), plans.decode(1025, 1025, 0, [], []),
                      plans.size(high, 0), plans.size(high, 65536), plans.size(65537, 65536),
                      plans.needed(1025, 1026), plans.needed(high, high), plans.needed(1025, high)):
            self.assertEqual(given, [-1])


if __name__ == "__main__":
    unittest.main()
