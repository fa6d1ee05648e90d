"""How calls are handed in and answers given back, and what is left untouched."""

import contextlib
import inspect
import io
import unittest

from lines import FOUND, ILL, NEXT, WELL, begin, certain, drop, fits, least, search, sets, test, told
from pooledtests.book import answers

LINE = (begin(6) + test(1, [4, 1, 4]) + test(0, [0, 5]) + test(2, [1]) + WELL + ILL + fits([4, 2]) + sets(2) + least(2)
        + certain(1) + certain(5) + search(1) + NEXT + told(1) + NEXT + told(0) + FOUND + drop(0) + drop(7) + begin(0))


class Interface(unittest.TestCase):
    def test_its_name_and_argument(self):
        self.assertEqual(list(inspect.signature(answers).parameters), ["calls"])

    def test_nothing_is_printed(self):
        said = io.StringIO()
        with contextlib.redirect_stdout(said), contextlib.redirect_stderr(said):
            answers(LINE)
        self.assertEqual(said.getvalue(), "")

    def test_one_list_of_answers(self):
        self.assertEqual(answers(LINE), [
            1, 0,
            1, 0,
            1, 1,
            1, -1,
            3, 2, 0, 5,
            1, 0,
            1, 1,
            2, 0, 7,
            2, 1, 1,
            6, 0, 0, 2, 3, 5, 1024,
            1, -1,
            1, 0,
            5, 4, 0, 1, 2, 3,
            1, 0,
            3, 2, 0, 1,
            1, 0,
            1, 0,
            1, 0,
            1, -1,
            1, -1])

    def test_what_is_handed_in_stays(self):
        line = list(LINE)
        answers(line)
        self.assertEqual(line, LINE)

    def test_nothing_is_kept_from_one_time_to_the_next(self):
        first = answers(LINE)
        answers(begin(9) + test(0, [1, 2]) + sets(4) + search(3))
        self.assertEqual(answers(LINE), first)

    def test_what_was_given_back_is_not_shared(self):
        first = answers(LINE)
        kept = list(first)
        first.append(7)
        self.assertEqual(answers(LINE), kept)

    def test_whole_numbers_alone(self):
        given = answers(LINE)
        self.assertIs(type(given), list)
        self.assertEqual({type(number) for number in given}, {int})

    def test_the_same_call_twice_in_a_line(self):
        line = begin(9) + test(1, [1, 2, 3]) + test(1, [3, 4])
        for call in (sets(3), least(3), certain(1), certain(2), WELL, ILL, fits([3])):
            once = answers(line + call)[6:]
            self.assertEqual(answers(line + call * 3)[6:], once * 3)

    def test_a_line_of_3000_calls(self):
        line = begin(1024) + test(1, range(512)) + sets(4) * 1000 + least(4) * 998 + fits([3]) * 1000
        given = answers(line)
        self.assertEqual(len(given), 4 + 3 * 1000 + 3 * 998 + 2 * 1000)
        self.assertEqual(given[-2:], [1, 1])

    def test_a_line_of_30000_numbers(self):
        line = begin(1024)
        for k in range(15):
            line += test(1, [(k + 17 * j) % 1024 for j in range(1990)])
        self.assertLess(len(line), 30000)
        self.assertEqual(answers(line), [1, 0] + [number for k in range(15) for number in (1, k)])


if __name__ == "__main__":
    unittest.main()
