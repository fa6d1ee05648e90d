"""One book of tests and one search by halves, and the line of calls about them."""

from pooledtests.covers import Covers, crowd_of, people_of

BEGIN = 0
TEST = 1
DROP = 2
WELL = 3
ILL = 4
FITS = 5
SETS = 6
LEAST = 7
CERTAIN = 8
SEARCH = 9
NEXT = 10
TOLD = 11

WRONG = -1
NOT_NOW = -2
CLASH = -3
NONE_FITS = -4

MOST_PEOPLE = 1024
MOST_TESTS = 1024
MOST_ILL = 4

# Stands between the two sets that certain answers, as nobody has this number.
BETWEEN = 1024


def answers(calls):
    """The answers to a line of calls, each as how many numbers it has and they."""
    line = Line(calls)
    book = Book()
    said = []
    while line.goes_on():
        answer = answer_next(line, book)
        said.append(len(answer))
        said.extend(answer)
    return said


def answer_next(line, book):
    """What the book answers to the next call of the line."""
    call = line.take_number()
    if call == BEGIN:
        return book.begin(line.take_number())
    if call == TEST:
        positive = line.take_number()
        return book.add_test(positive, line.take_row())
    if call == DROP:
        return book.drop(line.take_number())
    if call == WELL:
        return tell(book.certainly_well())
    if call == ILL:
        return book.ill()
    if call == FITS:
        return book.fits(line.take_row())
    if call == SETS or call == LEAST or call == CERTAIN:
        return book.about_covers(call, line.take_number())
    if call == SEARCH:
        return book.search(line.take_number())
    if call == NEXT:
        return book.next_pool()
    if call == TOLD:
        return book.told(line.take_number())
    return book.found()


def tell(crowd):
    """The answer that tells a crowd: how many they are, then they."""
    people = people_of(crowd)
    return [len(people)] + people


class Line:
    """The numbers of a line of calls, read from the first to the last."""

    def __init__(self, numbers):
        self.numbers = numbers
        self.place = 0

    def goes_on(self):
        return self.place < len(self.numbers)

    def take_number(self):
        number = self.numbers[self.place]
        self.place += 1
        return number

    def take_row(self):
        length = self.take_number()
        row = self.numbers[self.place:self.place + length]
        self.place += length
        return row


class Book:
    """The tests of n people, in order, and the search among these people if one has begun.

    A test is a pair: 1 where it is positive, else 0, and the crowd that is its pool. That fewer than enough
    people explain the tests is ruled out; a test more never makes fewer do, so this holds till one is dropped.
    """

    def __init__(self):
        self.n = 0
        self.tests = []
        self.halving = None
        self.enough = 0
        self.kept = {}

    def begin(self, n):
        if n == 0 or n > MOST_PEOPLE:
            return [WRONG]
        self.n = n
        self.tests = []
        self.halving = None
        self.enough = 0
        self.kept = {}
        return [0]

    def add_test(self, positive, pool):
        crowd = crowd_of(pool)
        if positive > 1 or self.has_strangers(crowd):
            return [WRONG]
        if len(self.tests) == MOST_TESTS:
            return [NOT_NOW]
        self.tests.append((positive, crowd))
        self.kept = {}
        return [len(self.tests) - 1]

    def drop(self, k):
        if k >= len(self.tests):
            return [WRONG]
        self.tests.pop(k)
        self.enough = 0
        self.kept = {}
        return [0]

    def has_strangers(self, crowd):
        """Whether somebody from n on is in the crowd."""
        return crowd >> self.n > 0

    def everybody(self):
        return (1 << self.n) - 1

    def certainly_well(self):
        crowd = 0
        for positive, pool in self.tests:
            if not positive:
                crowd |= pool
        return crowd

    def suspects(self):
        """For each positive test, those in its pool who are not certainly well."""
        doubtful = self.everybody() ^ self.certainly_well()
        return [pool & doubtful for positive, pool in self.tests if positive]

    def ill(self):
        crowd = 0
        for pool in self.suspects():
            if pool == 0:
                return [CLASH]
            # Nothing is left without the lowest bit: it is one person alone.
            if pool & (pool - 1) == 0:
                crowd |= pool
        return tell(crowd)

    def fits(self, some):
        crowd = crowd_of(some)
        if self.has_strangers(crowd):
            return [WRONG]
        for positive, pool in self.tests:
            if (pool & crowd != 0) != (positive == 1):
                return [0]
        return [1]

    def about_covers(self, call, d):
        """What sets, least or certain answers; kept till the tests change, as it may take long to find."""
        if d > MOST_ILL:
            return [WRONG]
        if (call, d) not in self.kept:
            self.kept[(call, d)] = self.find_answer(call, d)
        return self.kept[(call, d)]

    def find_answer(self, call, d):
        # A set explains the tests just if it hits each positive pool and has nobody who is certainly well.
        covers = Covers(self.everybody() ^ self.certainly_well(), self.suspects())
        smallest = covers.smallest(self.enough, d)
        if smallest is None:
            self.enough = max(self.enough, d + 1)
            return [0, 0] if call == SETS else [NONE_FITS]
        self.enough = covers.size_of(smallest)
        if call == SETS:
            return [0, covers.how_many(d)]
        if call == LEAST:
            return tell(covers.least(self.enough))
        in_some = covers.in_some(smallest, d)
        in_all = covers.in_all(smallest, d)
        return [0] + people_of(self.everybody() ^ in_some) + [BETWEEN] + people_of(in_all)

    def search(self, d):
        if d > self.n:
            return [WRONG]
        self.halving = Halving(self.n, d)
        return [0]

    def next_pool(self):
        if self.halving is None:
            return [NOT_NOW]
        pool = self.halving.pool()
        return [len(pool)] + pool

    def told(self, positive):
        if positive > 1:
            return [WRONG]
        if self.halving is None or self.halving.is_over():
            return [NOT_NOW]
        self.halving.take_in(positive)
        return [0]

    def found(self):
        if self.halving is None:
            return [NOT_NOW]
        return [len(self.halving.caught)] + self.halving.caught


class Halving:
    """A search by halves among n people of whom at most d are ill.

    Those caught, then the group, then the unknown: along these lists people always ascend, as a pool is
    taken from the front and what goes back to the unknown goes to their front.
    """

    def __init__(self, n, d):
        self.unknown = list(range(n))
        self.group = []
        self.caught = []
        self.ill_left = d

    def is_over(self):
        # Of a group it is not known who is ill, so the search goes on even where nobody else is unknown.
        return not self.group and (self.ill_left == 0 or not self.unknown)

    def pool(self):
        """The pool to test next; nobody where the search is over."""
        if self.is_over():
            return []
        if self.group:
            return self.group[:len(self.group) // 2]
        return self.unknown[:self.first_size()]

    def first_size(self):
        """How many of the unknown to test at once where there is no group."""
        unknown = len(self.unknown)
        size = 1
        if unknown + 2 > 2 * self.ill_left:
            while 2 * size * self.ill_left <= unknown - self.ill_left + 1:
                size = 2 * size
        return size

    def take_in(self, positive):
        """Takes in what the test of the next pool said."""
        pool = self.pool()
        if self.group:
            second = self.group[len(pool):]
            if positive:
                self.unknown = second + self.unknown
            self.group = pool if positive else second
        else:
            self.unknown = self.unknown[len(pool):]
            self.group = pool if positive else []
        if len(self.group) == 1:
            self.caught = self.caught + self.group
            self.group = []
            self.ill_left -= 1
