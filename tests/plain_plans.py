"""The document's words about plans gone through one by one, slowly: what the program is compared with."""

from itertools import combinations


def disjunct(m, n, d, e, rows):
    if m > 1024 or n > 1024 or d > 3:
        return [-1]
    for person in range(n):
        others = [other for other in range(n) if other != person]
        for some in sets_of_at_most(d, others):
            alone = [row for row in rows if person in row and not any(other in row for other in some)]
            if not len(alone) > e:
                return [0]
    return [1]


def apart(m, n, d, rows):
    if m > 1024 or n > 1024 or d > 2:
        return [-1]
    said = [[any(person in row for person in some) for row in rows] for some in sets_of_at_most(d, range(n))]
    return [int(not any(one == other for one, other in combinations(said, 2)))]


def sets_of_at_most(d, people):
    return [some for size in range(d + 1) for some in combinations(people, size)]
