"""The functions about plans: under which names they are there, what they give back, and what is left untouched."""

import contextlib
import copy
import inspect
import io
import unittest

from pooledtests import plans
from some_plans import taken_apart

ROWS = [[2, 0, 2], [1, 0, 9], [], [2, 1], [1, 0, 9]]

ARGUMENTS = {
    "disjunct": ["m", "n", "d", "e", "rows"],
    "apart": ["m", "n", "d", "rows"],
    "codes": ["q", "k", "n"],
    "decode": ["m", "n", "e", "said", "rows"],
    "size": ["num", "den"],
    "needed": ["n", "d"],
}

# Calls that are answered and such that are refused.
CALLS = (
    ("disjunct", (5, 3, 1, 0, ROWS)),
    ("disjunct", (5, 3, 3, 1, ROWS)),
    ("disjunct", (40, 5, 3, 0, [[k % 5, (k + 1 + k // 5 % 2) % 5] for k in range(40)])),
    ("disjunct", (5, 3, 4, 0, ROWS)),
    ("disjunct", (1025, 3, 1, 0, [])),
    ("apart", (5, 3, 1, ROWS)),
    ("apart", (5, 3, 2, ROWS)),
    ("apart", (5, 3, 3, ROWS)),
    ("apart", (1025, 3, 1, [])),
    ("codes", (3, 2, 7)),
    ("codes", (4, 2, 7)),
    ("decode", (5, 4, 1, [0, 1, 0, 0, 1], ROWS)),
    ("decode", (5, 1025, 1, [0, 1, 0, 0, 1], ROWS)),
    ("decode", (1025, 4, 1, [], [])),
    ("size", (3, 100)),
    ("size", (0, 0)),
    ("needed", (20, 7)),
    ("needed", (7, 20)),
)


def call(name, arguments):
    return getattr(plans, name)(*arguments)


class Interface(unittest.TestCase):
    def test_names_and_arguments(self):
        for name, arguments in ARGUMENTS.items():
            self.assertEqual(list(inspect.signature(getattr(plans, name)).parameters), arguments)

    def test_each_is_called_here(self):
        self.assertEqual({name for name, arguments in CALLS}, set(ARGUMENTS))

    def test_a_list_of_whole_numbers_is_given_back(self):
        for name, arguments in CALLS:
            given = call(name, arguments)
            self.assertIs(type(given), list)
            self.assertEqual({type(number) for number in given}, {int})

    def test_how_many_numbers_are_given_back(self):
        for name, arguments in CALLS:
            given = call(name, arguments)
            if name in ("disjunct", "apart", "size", "needed") or given[0] < 0:
                self.assertEqual(len(given), 1)
            elif name == "decode":
                self.assertEqual(len(given), 1 + given[0])
            else:
                self.assertEqual(len(taken_apart(given)), arguments[0] * arguments[0])

    def test_what_is_handed_in_stays(self):
        for name, arguments in CALLS:
            before = copy.deepcopy(arguments)
            call(name, arguments)
            self.assertEqual(arguments, before)

    def test_the_same_call_answers_the_same_again(self):
        first = [call(name, arguments) for name, arguments in CALLS]
        kept = copy.deepcopy(first)
        for given in first:
            given.append(7)
        self.assertEqual([call(name, arguments) for name, arguments in reversed(CALLS)], kept[::-1])

    def test_nothing_is_printed(self):
        said = io.StringIO()
        with contextlib.redirect_stdout(said), contextlib.redirect_stderr(said):
            for name, arguments in CALLS:
                call(name, arguments)
        self.assertEqual(said.getvalue(), "")


if __name__ == "__main__":
    unittest.main()
