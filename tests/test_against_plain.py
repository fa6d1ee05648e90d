"""Many lines at random, and long ones, compared with the document's words gone through one by one."""

import random
import unittest

from lines import FOUND, HIGHEST, ILL, NEXT, WELL, ask, begin, certain, drop, fits, least, search, sets, test, told
from plain import PlainBook


class Against(unittest.TestCase):
    def same(self, line):
        book = PlainBook()
        self.assertEqual(ask(*line), [book.answer(call) for call in line])

    def test_lines_at_random(self):
        for seed in range(400):
            chance = random.Random(seed)
            n = chance.choice((1, 2, 3, 5, 8, 10))
            line = [begin(n)]
            for step in range(40):
                line.append(some_call(chance, n))
            self.same(line)

    def test_sets_at_random(self):
        for seed in range(250):
            chance = random.Random(seed)
            n = chance.randint(8, 20)
            share = chance.choice((0.15, 0.3, 0.5, 0.7, 0.9))
            line = [begin(n)]
            for step in range(chance.choice((1, 2, 4, 7, 12, 25, 60))):
                pool = [person for person in range(n) if chance.random() < share]
                line.append(test(int(chance.random() < 0.96), pool))
            d = chance.randint(1, 4)
            self.same(line + [sets(d), least(d), certain(d), WELL, ILL])

    def test_sets_that_a_hidden_truth_explains(self):
        for seed in range(250):
            chance = random.Random(seed)
            n = chance.randint(8, 22)
            truth = chance.sample(range(n), chance.randint(1, 4))
            share = chance.choice((0.15, 0.3, 0.5, 0.7, 0.9))
            line = [begin(n)]
            for step in range(chance.choice((3, 6, 12, 40))):
                pool = [person for person in range(n) if chance.random() < share]
                if chance.random() < 0.5:
                    pool.append(chance.choice(truth))
                line.append(test(int(any(person in truth for person in pool)), pool))
            for d in (len(truth), 4):
                line += [sets(d), least(d), certain(d)]
            self.same(line + [ILL, fits(truth)])

    def test_searches_at_random(self):
        for seed in range(300):
            chance = random.Random(seed)
            n = chance.choice((1, 2, 3, 4, 7, 16, 31, 100))
            share = chance.choice((0.1, 0.5, 0.9))
            line = [begin(n), search(chance.randint(0, n))]
            for step in range(60):
                line += [NEXT, told(int(chance.random() < share)), FOUND]
            self.same(line)

    def test_searches_for_each_n_and_d(self):
        for n in range(1, 40):
            for d in range(n + 2):
                self.same([begin(n), search(d), NEXT, told(1), NEXT, told(0), NEXT, told(1), NEXT, FOUND])


def some_people(chance, n):
    highest = n - 1 if chance.random() < 0.9 else n
    return [chance.randint(0, highest) for k in range(chance.choice((0, 1, 2, 2, 3, 5, 12)))]


def some_number(chance, n):
    return chance.choice((0, 1, 2, 3, 4, 5, n, n + 1, HIGHEST))


def some_call(chance, n):
    sort = chance.randint(0, 15)
    if sort < 4:
        return test(chance.choice((0, 1, 1, 1, 1, 2)), some_people(chance, n))
    if sort < 6:
        return drop(chance.choice((0, 1, 2, 9)))
    if sort == 6:
        return fits(some_people(chance, n))
    if sort == 7:
        return begin(chance.choice((n, 0, 1025, HIGHEST)) if chance.random() < 0.3 else 0)
    if sort == 8:
        return search(some_number(chance, n))
    if sort < 11:
        return told(chance.choice((0, 1, 1, 2, HIGHEST)))
    return chance.choice((WELL, ILL, NEXT, FOUND, sets(some_number(chance, n)), least(some_number(chance, n)),
                          certain(some_number(chance, n))))


if __name__ == "__main__":
    unittest.main()
