"""The document's words gone through one by one, slowly: what the program is compared with."""

from itertools import combinations


class PlainSearch:
    """A search by halves, told with numbers of people and no lists that stay."""

    def __init__(self, n, d):
        self.state = {person: "unknown" for person in range(n)}
        self.d = d

    def those(self, state):
        return [person for person in sorted(self.state) if self.state[person] == state]

    def pool(self):
        group = self.those("group")
        if group:
            return group[:len(group) // 2]
        unknown = self.those("unknown")
        if self.d == 0 or not unknown:
            return []
        if len(unknown) + 2 <= 2 * self.d:
            return unknown[:1]
        a = max(a for a in range(11) if 2 ** a * self.d <= len(unknown) - self.d + 1)
        return unknown[:2 ** a]

    def told(self, positive):
        pool = self.pool()
        group = self.those("group")
        rest = [person for person in group if person not in pool]
        if positive:
            self.mark(pool, "group")
            self.mark(rest, "unknown")
        else:
            self.mark(pool, "well")
        group = self.those("group")
        if len(group) == 1:
            self.mark(group, "ill")
            self.d -= 1

    def mark(self, people, state):
        for person in people:
            self.state[person] = state


class PlainBook:
    """Answers call by call, by trying every set of people."""

    def __init__(self):
        self.n = 0
        self.tests = []
        self.search = None

    def answer(self, call):
        ways = (self.begin, self.test, self.drop, self.well, self.ill, self.fits, self.sets, self.least,
                self.certain, self.begin_search, self.next, self.told, self.found)
        return ways[call[0]](*call[1:])

    def begin(self, n):
        if not 1 <= n <= 1024:
            return [-1]
        self.n, self.tests, self.search = n, [], None
        return [0]

    def test(self, positive, length, *pool):
        if positive > 1 or any(person >= self.n for person in pool):
            return [-1]
        if len(self.tests) >= 1024:
            return [-2]
        self.tests.append((positive, set(pool)))
        return [len(self.tests) - 1]

    def drop(self, k):
        if k >= len(self.tests):
            return [-1]
        del self.tests[k]
        return [0]

    def is_well(self, person):
        return any(not positive and person in pool for positive, pool in self.tests)

    def well(self):
        return told([person for person in range(self.n) if self.is_well(person)])

    def ill(self):
        positives = [pool for positive, pool in self.tests if positive]
        if any(all(self.is_well(person) for person in pool) for pool in positives):
            return [-3]
        return told([person for person in range(self.n) if any(
            person in pool and all(self.is_well(other) for other in pool - {person}) for pool in positives)])

    def explains(self, some):
        return all(bool(pool & some) == bool(positive) for positive, pool in self.tests)

    def fits(self, length, *some):
        if any(person >= self.n for person in some):
            return [-1]
        return [int(self.explains(set(some)))]

    def explaining(self, d):
        return [some for size in range(d + 1) for some in combinations(range(self.n), size)
                if self.explains(set(some))]

    def sets(self, d):
        return [-1] if d > 4 else [0, len(self.explaining(d))]

    def least(self, d):
        if d > 4:
            return [-1]
        found = self.explaining(d)
        return told(list(found[0])) if found else [-4]

    def certain(self, d):
        if d > 4:
            return [-1]
        found = self.explaining(d)
        if not found:
            return [-4]
        well = [person for person in range(self.n) if all(person not in some for some in found)]
        ill = [person for person in range(self.n) if all(person in some for some in found)]
        return [0] + well + [1024] + ill

    def begin_search(self, d):
        if d > self.n:
            return [-1]
        self.search = PlainSearch(self.n, d)
        return [0]

    def next(self):
        return [-2] if self.search is None else told(self.search.pool())

    def told(self, positive):
        if positive > 1:
            return [-1]
        if self.search is None or not self.search.pool():
            return [-2]
        self.search.told(positive)
        return [0]

    def found(self):
        return [-2] if self.search is None else told(self.search.those("ill"))


def told(people):
    return [len(people)] + people
