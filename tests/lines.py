"""Calls written as lists of numbers, and the answers to a line of them taken apart."""

from pooledtests.book import answers

HIGHEST = 4294967295

WELL = [3]
ILL = [4]
NEXT = [10]
FOUND = [12]


def begin(n):
    return [0, n]


def test(positive, pool):
    return [1, positive, len(pool)] + list(pool)


def drop(k):
    return [2, k]


def fits(some):
    return [5, len(some)] + list(some)


def sets(d):
    return [6, d]


def least(d):
    return [7, d]


def certain(d):
    return [8, d]


def search(d):
    return [9, d]


def told(positive):
    return [11, positive]


def ask(*calls):
    """The answers to a line of these calls, each as a list."""
    given = answers([number for call in calls for number in call])
    apart = []
    place = 0
    while place < len(given):
        length = given[place]
        apart.append(given[place + 1:place + 1 + length])
        place += 1 + length
    assert place == len(given), "the last answer is shorter than told"
    assert len(apart) == len(calls), "not one answer to each call"
    return apart


def last(*calls):
    """The answer to the last of these calls."""
    return ask(*calls)[-1]
