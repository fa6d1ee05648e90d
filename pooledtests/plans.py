"""Plans, pools that are told beforehand: each call about them stands by itself."""

from pooledtests.book import MOST_PEOPLE, WRONG, tell
from pooledtests.covers import crowd_of, in_at_least, in_at_most, not_hit, people_of, subsets

MOST_POOLS = 1024
MOST_HIDING = 3
MOST_APART = 2
MOST_COEFFICIENTS = 4
PRIMES = (2, 3, 5, 7, 11, 13, 17, 19, 23, 29, 31)
MOST_DEN = 65535
LARGEST_GROUP = 64

# With more people it takes too long to go through all trios.
MOST_IN_TRIOS = 220

# How many pairs are looked at together: few enough for their crowds to be numbers of less than 900 digits.
MOST_PAIRS = 2600


def disjunct(m, n, d, e, rows):
    """Whether the plan hides nobody of n behind d with e to spare, as 1 or 0."""
    if m > MOST_POOLS or n > MOST_PEOPLE or d > MOST_HIDING:
        return [WRONG]
    everybody = (1 << n) - 1
    pools = [crowd_of(row) & everybody for row in rows]
    if d == 3 and trios_are_shorter(pools, n, e):
        return [0 if Trios(pools, n).hide_somebody(e) else 1]
    for person in range(n):
        theirs = pools_with(pools, person)
        if some_hit(theirs, everybody ^ (1 << person), d, len(theirs) - e):
            return [0]
    return [1]


def pools_with(pools, person):
    """The pools that this person is in."""
    one = 1 << person
    return [pool for pool in pools if pool & one]


def busy_others(pools, crowd, most, enough):
    """Who of the crowd hits an equal share at least, if so many people are to hit enough of the pools."""
    return in_at_least(pools, crowd, (enough + most - 1) // most)


def some_hit(pools, crowd, most, enough):
    """Whether at most so many of the crowd hit enough of the pools."""
    if enough <= 0:
        return True
    if most == 0:
        return False
    busy = busy_others(pools, crowd, most, enough)
    if most == 1:
        return busy > 0
    while busy:
        one = busy & -busy
        rest = not_hit(pools, one)
        if some_hit(rest, crowd ^ one, most - 1, enough - len(pools) + len(rest)):
            return True
        # Nor does it help to take somebody who hits nothing but what this person hits too.
        crowd &= in_some_of(rest)
        busy &= crowd
    return False


def in_some_of(pools):
    """Who is in one of the pools, or in several."""
    crowd = 0
    for pool in pools:
        crowd |= pool
    return crowd


def trios_are_shorter(pools, n, e):
    """Whether to go through all trios at once: a guess, from how few of them can be passed over one by one."""
    if n <= MOST_HIDING or n > MOST_IN_TRIOS:
        return False
    everybody = (1 << n) - 1
    busy = 0
    for person in range(n):
        theirs = pools_with(pools, person)
        if len(theirs) <= e:
            return False
        busy += len(people_of(busy_others(theirs, everybody ^ (1 << person), MOST_HIDING, len(theirs) - e)))
    return 20 * busy > 19 * n * (n - 1)


class Trios:
    """Everybody with regard to any three others, for n people of whom there are more than three.

    For two of the three, all pairs of the third and somebody else are gone through at once, for some thirds
    at a time. The pairs are a crowd too, in which a third c and somebody i have the place n * (c - first) + i,
    where first is the first of these thirds.
    """

    def __init__(self, pools, n):
        self.n = n
        self.pools = pools
        self.everyone = (1 << n) - 1
        self.step = min(n, MOST_PAIRS // n)
        self.thirds = self.places_of_thirds(list(range(self.step)))
        self.twins = crowd_of([(n + 1) * k for k in range(self.step)])
        self.pairs_in = {}
        for first in range(0, n, self.step):
            self.pairs_in[first] = self.pairs_by_pool(first)

    def places_of_thirds(self, thirds):
        """The places of these thirds, told from the first on; times a crowd, the pairs of each with each of it."""
        return crowd_of([self.n * third for third in thirds])

    def pairs_by_pool(self, first):
        """For each pool the pairs of a third who is not in it and somebody who is."""
        pairs = {}
        for pool in self.pools:
            outside = (self.everyone ^ pool) >> first & ((1 << self.step) - 1)
            pairs[pool] = self.places_of_thirds(people_of(outside)) * pool
        return pairs

    def hide_somebody(self, e):
        """Whether somebody is alone in at most e pools with regard to some three others."""
        for a in range(2, self.n):
            rest = not_hit(self.pools, 1 << a)
            for b in range(1, a):
                if self.hide_with(a, b, not_hit(rest, 1 << b), e):
                    return True
        return False

    def hide_with(self, a, b, rest, e):
        """Whether a, b and a third below b hide somebody, where the rest are the pools without a and b."""
        for first in range(0, b, self.step):
            pairs_in = self.pairs_in[first]
            if in_at_most([pairs_in[pool] for pool in rest], self.pairs_beside(a, b, first), e):
                return True
        return False

    def pairs_beside(self, a, b, first):
        """All pairs of a third below b, from the first on, and somebody who is none of the three."""
        how_many = min(self.step, b - first)
        thirds = self.thirds & ((1 << self.n * how_many) - 1)
        pairs = thirds * (self.everyone ^ (1 << a) ^ (1 << b))
        return pairs ^ (pairs & (self.twins << first))


def apart(m, n, d, rows):
    """Whether the plan tells apart sets of at most d of n, as 1 or 0."""
    if m > MOST_POOLS or n > MOST_PEOPLE or d > MOST_APART:
        return [WRONG]
    if d == 0:
        return [1]
    left = marks_of_each(n, rows)
    for k in range(len(rows)):
        # Sets whose first positive test is another are told apart from these anyway.
        inside = [mark for mark in left if mark >> k & 1]
        left = [mark for mark in left if not mark >> k & 1]
        pairs = marks_of_pairs(inside, left) if d == 2 else []
        if some_same(inside + pairs):
            return [0]
    # Who is in no pool makes no test positive, as the empty set does.
    return [0 if left else 1]


def marks_of_each(n, rows):
    """For each of n people the pools they are in, as a whole number whose bit k stands for pool k."""
    marks = [0] * n
    for k, row in enumerate(rows):
        for person in row:
            if person < n:
                marks[person] |= 1 << k
    return marks


def marks_of_pairs(inside, left):
    """The pools that two people hit, for each two of whom one is inside at least."""
    marks = []
    for k, mark in enumerate(inside):
        marks.extend([mark | other for other in inside[k + 1:]])
        marks.extend([mark | other for other in left])
    return marks


def some_same(marks):
    """Whether two of the marks are the same; by sorting, as Python's hashes of such numbers fall together."""
    ordered = sorted(marks)
    return any([a == b for a, b in zip(ordered, ordered[1:])])


def codes(q, k, n):
    """The plan by polynomials for n people: how many pools it has, then each as how many it has and they."""
    if q not in PRIMES or k == 0 or k > MOST_COEFFICIENTS:
        return [WRONG]
    if n == 0 or n > MOST_PEOPLE or n > power(q, k):
        return [WRONG]
    answer = [q * q]
    for x in range(q):
        pools = [[] for y in range(q)]
        for person in range(n):
            pools[value_at(x, person, q)].append(person)
        for pool in pools:
            answer.append(len(pool))
            answer.extend(pool)
    return answer


def power(base, exponent):
    product = 1
    for step in range(exponent):
        product *= base
    return product


def value_at(x, person, q):
    """The value at x, modulo q, of the polynomial that has the person's digits in base q as its coefficients."""
    total = 0
    factor = 1
    while person:
        total += person % q * factor
        factor *= x
        person //= q
    return total % q


def decode(m, n, e, said, rows):
    """Who of n is in at most e pools that are said to be negative: how many they are, then they."""
    if m > MOST_POOLS or n > MOST_PEOPLE:
        return [WRONG]
    negative = [crowd_of(row) for row, positive in zip(rows, said) if not positive]
    return tell(in_at_most(negative, (1 << n) - 1, e))


def size(num, den):
    """The size of groups for which a person costs fewest tests on the average, where num in den are ill."""
    if num > den or den == 0 or den > MOST_DEN:
        return [WRONG]
    best = 1
    # What a person saves against a test alone is the fraction saved / parts, kept as two whole numbers to be exact.
    saved = 0
    parts = 1
    well_power = den - num
    den_power = den
    for group in range(2, LARGEST_GROUP + 1):
        well_power *= den - num
        den_power *= den
        # Against 1 alone, 1 / group + 1 - well_power / den_power saves well_power / den_power - 1 / group.
        group_saved = group * well_power - den_power
        group_parts = group * den_power
        if group_saved * parts > saved * group_parts:
            best = group
            saved = group_saved
            parts = group_parts
    return [best]


def needed(n, d):
    """The least b for which 2^b is no less than the number of sets of at most d of n."""
    if d > n or n > MOST_PEOPLE:
        return [WRONG]
    return [(subsets(n, d) - 1).bit_length()]
