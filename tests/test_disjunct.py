"""Point 9: disjunct."""

import random
import unittest

import plain_plans
from pooledtests.plans import disjunct
from some_plans import HIGHEST, everyone_alone, lines_of_a_plane, plan_at_random, rows_and_columns


class Disjunct(unittest.TestCase):
    def ask(self, n, d, e, rows):
        return disjunct(len(rows), n, d, e, rows)

    def test_everyone_alone_is_hidden_by_nobody(self):
        for n in (1, 2, 3, 4, 5, 40, 1024):
            for d in range(4):
                self.assertEqual(self.ask(n, d, 0, everyone_alone(n)), [1])
                self.assertEqual(self.ask(n, d, 1, everyone_alone(n)), [0])

    def test_rows_and_columns(self):
        # One other shares a row or a column; two others, one in each, hide.
        rows = rows_and_columns(4)
        self.assertEqual([self.ask(16, d, 0, rows) for d in range(4)], [[1], [1], [0], [0]])
        self.assertEqual([self.ask(16, d, 1, rows) for d in range(4)], [[1], [0], [0], [0]])
        self.assertEqual([self.ask(16, d, 2, rows) for d in range(4)], [[0], [0], [0], [0]])

    def test_each_other_takes_one_pool_away(self):
        for q in (5, 7, 31):
            rows = lines_of_a_plane(q)
            for d in range(4):
                self.assertEqual(self.ask(q * q, d, q - d - 1, rows), [1])
                self.assertEqual(self.ask(q * q, d, q - d, rows), [0])

    def test_alone_with_regard_to_three_but_not_four(self):
        # Person 0 is in 4 pools, each of the others in one of these and in pools of their own.
        rows = [[0, 1], [0, 2], [0, 3], [0, 4]] + [[person] for person in (1, 2, 3, 4)] * 2
        self.assertEqual(self.ask(5, 3, 0, rows), [1])
        self.assertEqual(self.ask(5, 3, 1, rows), [0])
        self.assertEqual(self.ask(5, 2, 1, rows), [1])
        self.assertEqual(self.ask(5, 2, 2, rows), [0])

    def test_three_together_hide_where_the_busiest_does_not(self):
        # Of the six pools of 0, 1 hits three, but it's 2, 3 and 4 who hit all.
        rows = [[0, 1, 2], [0, 2], [0, 1, 3], [0, 3], [0, 1, 4], [0, 4]] + [[person] for person in (1, 2, 3, 4)] * 2
        self.assertEqual(self.ask(5, 3, 0, rows), [0])
        self.assertEqual(self.ask(5, 2, 0, rows), [1])
        self.assertEqual(self.ask(5, 2, 1, rows), [1])
        self.assertEqual(self.ask(5, 2, 2, rows), [0])

    def test_the_last_person_is_looked_at_too(self):
        rows = everyone_alone(1023) + [[1023, 0]]
        self.assertEqual([self.ask(1024, d, 0, rows) for d in range(4)], [[1], [0], [0], [0]])

    def test_a_pool_that_is_told_twice_counts_twice(self):
        rows = everyone_alone(6) * 2
        self.assertEqual(self.ask(6, 3, 1, rows), [1])
        self.assertEqual(self.ask(6, 3, 2, rows), [0])

    def test_somebody_in_no_pool(self):
        for d in range(4):
            self.assertEqual(self.ask(5, d, 0, everyone_alone(4)), [0])

    def test_somebody_in_every_pool(self):
        rows = [[person, 4] for person in range(4)]
        self.assertEqual([self.ask(5, d, 0, rows) for d in range(4)], [[1], [0], [0], [0]])

    def test_two_people_in_the_very_same_pools(self):
        rows = [[0], [1], [2, 3], [2, 3], [2, 3]]
        self.assertEqual([self.ask(4, d, 0, rows) for d in range(4)], [[1], [0], [0], [0]])

    def test_empty_pools_say_nothing(self):
        self.assertEqual(self.ask(3, 2, 0, everyone_alone(3) + [[], []]), [1])
        self.assertEqual(self.ask(3, 2, 1, everyone_alone(3) + [[], []]), [0])
        self.assertEqual(self.ask(1, 0, 0, [[]]), [0])

    def test_in_any_order_and_somebody_told_twice(self):
        self.assertEqual(self.ask(3, 2, 0, [[2, 0, 2], [1, 0, 1, 1], [2, 1]]), [0])
        self.assertEqual(self.ask(3, 1, 0, [[2, 0, 2], [1, 0, 1, 1], [2, 1]]), [1])
        self.assertEqual(self.ask(3, 0, 1, [[2, 0, 2], [1, 0, 1, 1], [2, 1]]), [1])
        self.assertEqual(self.ask(3, 0, 2, [[2, 0, 2], [1, 0, 1, 1], [2, 1]]), [0])

    def test_people_from_n_on_are_not_looked_at(self):
        # 3 and 1023 are wherever 0, 1 and 2 are, and would hide them.
        rows = [[0, 3, 1023], [1, 3, 1023], [2, 3, 4, 1023], [3, 1023], [4], [1023]]
        self.assertEqual([self.ask(3, d, 0, rows) for d in range(4)], [[1]] * 4)
        self.assertEqual(self.ask(3, 0, 1, rows), [0])
        self.assertEqual(self.ask(4, 1, 0, rows), [0])

    def test_nobody(self):
        for d in range(4):
            for e in (0, 1, HIGHEST):
                self.assertEqual(self.ask(0, d, e, []), [1])
                self.assertEqual(self.ask(0, d, e, [[], [5, 6]]), [1])

    def test_one_person(self):
        for d in range(4):
            self.assertEqual(self.ask(1, d, 0, [[0]]), [1])
            self.assertEqual(self.ask(1, d, 1, [[0]]), [0])
            self.assertEqual(self.ask(1, d, 0, [[1]]), [0])

    def test_fewer_others_than_d(self):
        for d in (1, 2, 3):
            self.assertEqual(self.ask(2, d, 0, [[0], [1]]), [1])
            self.assertEqual(self.ask(2, d, 0, [[0], [0, 1]]), [0])
        self.assertEqual([self.ask(3, d, 0, [[0, 1], [1, 2], [2, 0]]) for d in range(4)], [[1], [1], [0], [0]])

    def test_no_pools(self):
        for n in (1, 2, 1024):
            for d in range(4):
                self.assertEqual(self.ask(n, d, 0, []), [0])

    def test_e_up_to_the_highest(self):
        rows = [[0, 1]] * 1024
        self.assertEqual(self.ask(2, 0, 1023, rows), [1])
        self.assertEqual(self.ask(1, 3, 1023, rows), [1])
        for e in (1024, 1025, HIGHEST):
            self.assertEqual(self.ask(2, 0, e, rows), [0])
            self.assertEqual(self.ask(2, 3, e, rows), [0])

    def test_1024_of_everything(self):
        # Person p is in the pools p - 92 to p: any two neighbours hide the one between them.
        rows = [[(first + k) % 1024 for k in range(93)] for first in range(1024)]
        self.assertEqual(self.ask(1024, 0, 92, rows), [1])
        self.assertEqual(self.ask(1024, 0, 93, rows), [0])
        self.assertEqual(self.ask(1024, 1, 0, rows), [1])
        self.assertEqual(self.ask(1024, 1, 1, rows), [0])
        self.assertEqual(self.ask(1024, 2, 0, rows), [0])

    def test_too_many(self):
        good = everyone_alone(2)
        for m in (1025, 1026, HIGHEST):
            self.assertEqual(disjunct(m, 2, 1, 0, []), [-1])
        for n in (1025, HIGHEST):
            self.assertEqual(disjunct(2, n, 1, 0, good), [-1])
        for d in (4, 5, HIGHEST):
            self.assertEqual(disjunct(2, 2, d, 0, good), [-1])
            self.assertEqual(disjunct(0, 0, d, 0, []), [-1])
        self.assertEqual(disjunct(HIGHEST, HIGHEST, HIGHEST, HIGHEST, []), [-1])


class AgainstPlain(unittest.TestCase):
    def same(self, n, d, e, rows):
        given = disjunct(len(rows), n, d, e, rows)
        self.assertEqual(given, plain_plans.disjunct(len(rows), n, d, e, rows), (n, d, e, rows))
        return given[0]

    def both_come(self, given):
        self.assertGreater(given.count(0), 20)
        self.assertGreater(given.count(1), 20)

    def test_small_plans(self):
        for d in range(4):
            given = []
            for seed in range(300):
                chance = random.Random(seed)
                n = chance.randint(0, 8)
                rows = plan_at_random(chance, n, chance.choice((0, 1, 3, 8, 12, 20, 30)), chance.choice((0.1, 0.2, 0.4, 0.7)))
                given.append(self.same(n, d, chance.choice((0, 0, 0, 1, 2)), rows))
            self.both_come(given)

    def test_many_pools_with_half_of_the_people(self):
        given = []
        for seed in range(120):
            chance = random.Random(seed)
            n = chance.randint(4, 8)
            m = chance.choice((40, 70, 100, 150))
            given.append(self.same(n, 3, chance.randint(0, m // 16), plan_at_random(chance, n, m, 0.5)))
        self.both_come(given)

    def test_just_as_many_to_spare(self):
        for seed in range(60):
            chance = random.Random(seed)
            n = chance.randint(3, 9)
            rows = plan_at_random(chance, n, chance.choice((20, 50, 100)), chance.choice((0.2, 0.4, 0.5, 0.6)))
            for d in (1, 2, 3):
                given = [self.same(n, d, e, rows) for e in range(12)]
                self.assertEqual(given, sorted(given, reverse=True))


class Large(unittest.TestCase):
    """Plans of which it is known how many pools are left to each, in the worst case."""

    def boundary(self, n, d, left, rows):
        self.assertEqual(disjunct(len(rows), n, d, left - 1, rows), [1])
        self.assertEqual(disjunct(len(rows), n, d, left, rows), [0])

    def test_sixty_people_and_half_of_them_in_each_pool(self):
        chance = random.Random(9)
        n = 60
        rows = [chance.sample(range(n), 30) for k in range(400)]
        marks = [sum(1 << k for k in range(400) if person in rows[k]) for person in range(n)]
        left = 400
        for a in range(n):
            for b in range(a):
                for c in range(b):
                    free = ~(marks[a] | marks[b] | marks[c])
                    for person in range(n):
                        if person not in (a, b, c):
                            left = min(left, (marks[person] & free).bit_count())
        self.boundary(n, 3, left, rows)

    def test_one_trio_hides_one_person(self):
        chance = random.Random(2)
        rows = [chance.sample(range(70), 35) for k in range(400)]
        self.assertEqual(disjunct(400, 70, 3, 1, rows), [1])
        for hidden, trio in ((69, (0, 1, 2)), (0, (1, 2, 3)), (5, (0, 30, 69)), (40, (41, 42, 43)), (0, (66, 67, 68)),
                             (66, (67, 68, 69)), (33, (10, 44, 69)), (68, (50, 51, 69)), (36, (35, 37, 38)),
                             (37, (36, 38, 69)), (51, (3, 52, 53)), (60, (59, 61, 62))):
            told = [list(row) for row in rows]
            for k, row in enumerate(told):
                if hidden in row and not any(other in row for other in trio):
                    row.append(trio[k % 3])
            self.assertEqual(disjunct(400, 70, 3, 0, told), [0], (hidden, trio))
            self.assertEqual(disjunct(400, 70, 2, 0, told), [1], (hidden, trio))
            # One pool that is left to the hidden is enough, where none is to spare.
            told.append([hidden])
            self.assertEqual(disjunct(401, 70, 3, 0, told), [1], (hidden, trio))
            self.assertEqual(disjunct(401, 70, 3, 1, told), [0], (hidden, trio))

    def test_a_thousand_people(self):
        chance = random.Random(4)
        rows = [chance.sample(range(1024), 93) for k in range(600)]
        marks = [sum(1 << k for k in range(600) if person in rows[k]) for person in range(1024)]
        left = min((one & ~other).bit_count() for one in marks for other in marks if one is not other)
        self.boundary(1024, 1, left, rows)


if __name__ == "__main__":
    unittest.main()
