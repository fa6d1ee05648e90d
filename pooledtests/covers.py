"""Sets of people that hit every pool: how many there are, the first of them, and who is in some or in all.

A set of people is called a crowd and is a whole number here: its bit p stands for person p, and a
single person is the crowd with that one bit. A crowd hits a pool if somebody is in both.
"""

# Counting by missed pools keeps a number for each choice of pools: with more than these, too many.
MOST_MISSED = 20

# How many pools are counted before it is asked who is left.
FEW_POOLS = 32


def crowd_of(people):
    """The crowd of the people in a list, which may tell somebody twice."""
    crowd = 0
    for person in people:
        crowd |= 1 << person
    return crowd


def people_of(crowd):
    """The people of a crowd as a list, ascending."""
    people = []
    while crowd:
        one = crowd & -crowd
        people.append(one.bit_length() - 1)
        crowd ^= one
    return people


def not_hit(pools, one):
    """The pools that this person is not in."""
    return [pool for pool in pools if not pool & one]


def in_all_others(pools, one, crowd):
    """Who of the crowd is in every pool that this person is not in."""
    for pool in pools:
        if not pool & one:
            crowd &= pool
            if not crowd:
                break
    return crowd


def in_at_least(pools, crowd, least):
    """Who of the crowd is in at least so many of the pools."""
    return counted_at_least(bit_planes(pools), crowd, least)


def in_at_most(pools, crowd, most):
    """Who of the crowd is in at most so many of the pools; a few pools at a time, as often nobody is left soon."""
    planes = []
    for start in range(0, len(pools), FEW_POOLS):
        planes = added_planes(planes, bit_planes([pool & crowd for pool in pools[start:start + FEW_POOLS]]))
        crowd ^= counted_at_least(planes, crowd, most + 1)
        if not crowd:
            break
    return crowd


def counted_at_least(planes, crowd, least):
    """Who of the crowd has at least this number, where the numbers are told in bit planes."""
    if least >> len(planes):
        return 0
    more = 0
    for k in range(len(planes) - 1, -1, -1):
        here = crowd & planes[k]
        if least >> k & 1:
            crowd = here
        else:
            more |= here
            crowd ^= here
    return more | crowd


def bit_planes(pools):
    """How many pools each person is in, for all at once: the k-th crowd has those with bit k in that number."""
    planes = []
    level = list(pools)
    while level:
        carries = []
        while len(level) > 1:
            a = level.pop()
            b = level.pop()
            c = level.pop() if level else 0
            odd = a ^ b
            level.append(odd ^ c)
            carries.append(a & b | odd & c)
        planes.append(level[0])
        level = carries
    return planes


def added_planes(planes, others):
    """The bit planes of the sums of two numbers of each person."""
    sums = []
    carry = 0
    for k in range(max(len(planes), len(others))):
        a = planes[k] if k < len(planes) else 0
        b = others[k] if k < len(others) else 0
        odd = a ^ b
        sums.append(odd ^ carry)
        carry = a & b | odd & carry
    if carry:
        sums.append(carry)
    return sums


def too_many_apart(pools, crowd, most):
    """Whether one pool has nobody of the crowd, or more pools than so many are found that share nobody of it."""
    taken = 0
    apart = 0
    for pool in pools:
        part = pool & crowd
        if not part & taken:
            apart += 1
            if apart > most or not part:
                return True
            taken |= part
    return False


def subsets(size, most):
    """How many sets of at most so many people a crowd of this size has."""
    total = 0
    of_k = 1
    for k in range(most + 1):
        total += of_k
        of_k = of_k * (size - k) // (k + 1)
    return total


class Covers:
    """The sets of a crowd's people that hit every one of some pools."""

    def __init__(self, crowd, pools):
        full = (1 << 1032) - 1
        self.one_of_three = full // 7
        self.two_of_three = full // 7 * 3
        self.three_of_six = full // 63 * 7
        self.six_of_twelve = full // 4095 * 63
        self.crowd = crowd
        # The smallest pool first: it has the fewest people to try.
        self.pools = sorted(sorted(set(pools)), key=self.size_of)

    def size_of(self, crowd):
        """How many people are in a crowd: its bits are added up in fields of 3, then of 6, then of 12."""
        sums = crowd - (crowd >> 1 & self.two_of_three) - (crowd >> 2 & self.one_of_three)
        sums = (sums + (sums >> 3)) & self.three_of_six
        sums = (sums + (sums >> 6)) & self.six_of_twelve
        # What remains of the division by 2^12 - 1 is the sum of all fields: at most 1032, so nothing is lost.
        return sums % 4095

    def how_many(self, most):
        """How many sets of at most so many people hit every pool."""
        return self.count_in(self.pools, self.crowd, most)

    def count_in(self, pools, crowd, most):
        """How many sets of at most so many of the crowd hit these pools."""
        if not pools:
            return subsets(self.size_of(crowd), most)
        if most == 0 or too_many_apart(pools, crowd, most):
            return 0
        if most == 1:
            # No person is 0, so these are in all pools.
            return self.size_of(in_all_others(pools, 0, crowd))
        if self.missed_is_shorter(pools, crowd, most):
            return self.count_by_missed(pools, crowd, most)
        total = 0
        needed = self.one_of_these(pools, crowd, most)
        while needed:
            one = needed & -needed
            needed ^= one
            # Sets with this person are counted now, so those counted next do without.
            crowd ^= one
            if most == 2:
                # Among the others the person stands for the set of one.
                total += self.size_of(in_all_others(pools, one, crowd | one))
            else:
                total += self.count_in(not_hit(pools, one), crowd, most - 1)
        return total

    def one_of_these(self, pools, crowd, most):
        """A small crowd of whom somebody is in each set of at most so many that hits the pools."""
        first = pools[0] & crowd
        # Somebody of the set hits no less than an equal share of the pools.
        busy = in_at_least(pools, crowd, (len(pools) + most - 1) // most)
        return busy if self.size_of(busy) < self.size_of(first) else first

    def missed_is_shorter(self, pools, crowd, most):
        """Whether to count by missed pools: a guess, from how many people or choices there would be to go through."""
        if len(pools) > MOST_MISSED:
            return False
        size = self.size_of(pools[0] & crowd)
        left = len(pools) - len(pools) * size // self.size_of(crowd)
        deeper = 1
        for k in range(most - 2):
            deeper *= size
        return 1 << len(pools) <= size * min(1 << left, deeper)

    def count_by_missed(self, pools, crowd, most):
        """What count_in answers, for few pools: all sets, less those that miss a pool, and those that miss two back."""
        free = self.sizes_by_hits(pools, crowd)
        signs = [1]
        for pool in pools:
            # In the first half it's all the same who is in this pool; in the second only who is not may be taken.
            missing = free[0::2]
            free = [a + b for a, b in zip(missing, free[1::2])] + missing
            signs = signs + [-sign for sign in signs]
        signs_by_size = {}
        for size, sign in zip(free, signs):
            signs_by_size[size] = signs_by_size.get(size, 0) + sign
        return sum([sign * subsets(size, most) for size, sign in signs_by_size.items()])

    def sizes_by_hits(self, pools, crowd):
        """How many of the crowd are in the pools that place t's bits tell and in no others, for each t."""
        parts = [crowd]
        for pool in pools:
            hitting = [part & pool for part in parts]
            parts = [part ^ hit for part, hit in zip(parts, hitting)] + hitting
        return [self.size_of(part) if part else 0 for part in parts]

    def some(self, pools, crowd, most):
        """A set of at most so many of the crowd that hits these pools; None where there is none."""
        if not pools:
            return 0
        if most == 0 or too_many_apart(pools, crowd, most):
            return None
        needed = self.one_of_these(pools, crowd, most)
        while needed:
            one = needed & -needed
            needed ^= one
            crowd ^= one
            if most == 2:
                last = in_all_others(pools, one, crowd | one)
                others = last & -last if last else None
            else:
                others = self.some(not_hit(pools, one), crowd, most - 1)
            if others is not None:
                return one | others
        return None

    def smallest(self, fewest, most):
        """A set of the fewest people that hits every pool, if that takes from fewest to most people; else None."""
        for size in range(fewest, most + 1):
            crowd = self.some(self.pools, self.crowd, size)
            if crowd is not None:
                return crowd
        return None

    def least(self, size):
        """Of the sets that hit every pool the first in a dictionary's order, where the smallest have this size."""
        others = size - 1
        pools = self.pools
        crowd = self.crowd
        chosen = 0
        while pools:
            one = crowd & -crowd
            crowd ^= one
            rest = not_hit(pools, one)
            if len(rest) < len(pools) and self.some(rest, crowd, others) is not None:
                chosen |= one
                pools = rest
                others -= 1
        return chosen

    def in_some(self, smallest, most):
        """Who is in some set of at most so many that hits every pool, where this is a smallest of them."""
        if self.size_of(smallest) < most:
            # There is room for anybody beside the smallest.
            return self.crowd
        found = smallest
        left = self.crowd ^ smallest
        while left:
            one = left & -left
            left ^= one
            rest = not_hit(self.pools, one)
            # Who hits nothing is in none of the smallest.
            if len(rest) < len(self.pools):
                others = self.some(rest, self.crowd ^ one, most - 1)
                if others is not None:
                    found |= one | others
                    left &= ~others
        return found

    def in_all(self, smallest, most):
        """Who is in all sets of at most so many that hit every pool, where this is one of them."""
        common = smallest
        left = smallest
        while left:
            one = left & -left
            left ^= one
            without = self.some(self.pools, self.crowd ^ one, most)
            if without is not None:
                common &= without
                left &= without
        return common
