"""The document's words about plans gone through one by one, slowly: what the program is compared with."""

from fractions import Fraction
from itertools import combinations
from math import comb


def disjunct(m, n, d, e, rows):
    if m > 1024 or n > 1024 or d > 3:
        return [-1]
    for person in range(n):
        others = [other for other in range(n) if other != person]
        for some in sets_of_at_most(d, others):
            alone = [row for row in rows if person in row and not any(other in row for other in some)]
            if not len(alone) > e:
                return [0]
    return [1]


def apart(m, n, d, rows):
    if m > 1024 or n > 1024 or d > 2:
        return [-1]
    said = [[any(person in row for person in some) for row in rows] for some in sets_of_at_most(d, range(n))]
    return [int(not any(one == other for one, other in combinations(said, 2)))]


def sets_of_at_most(d, people):
    return [some for size in range(d + 1) for some in combinations(people, size)]


def codes(q, k, n):
    is_prime = q >= 2 and all(q % other for other in range(2, min(q, 100)))
    if not (q <= 31 and is_prime and 1 <= k <= 4 and 1 <= n <= 1024 and n <= q ** k):
        return [-1]
    answer = [q * q]
    for x in range(q):
        for y in range(q):
            pool = [i for i in range(n) if sum(i // q ** t % q * x ** t for t in range(k)) % q == y]
            answer += [len(pool)] + pool
    return answer


def decode(m, n, e, said, rows):
    if m > 1024 or n > 1024:
        return [-1]
    people = [person for person in range(n)
              if len([k for k in range(m) if said[k] == 0 and person in rows[k]]) <= e]
    return [len(people)] + people


def size(num, den):
    if num > den or den == 0 or den > 65535:
        return [-1]
    costs = group_costs(num, den)
    return [1 + costs.index(min(costs))]


def group_costs(num, den):
    """What a person costs in groups of 1 to 64."""
    well = 1 - Fraction(num, den)
    return [Fraction(1)] + [Fraction(1, s) + 1 - well ** s for s in range(2, 65)]


def needed(n, d):
    if d > n or n > 1024:
        return [-1]
    number = sum(comb(n, k) for k in range(d + 1))
    b = 0
    while 2 ** b < number:
        b += 1
    return [b]
