"""Plans that several tests use."""

HIGHEST = 4294967295


def everyone_alone(n):
    return [[person] for person in range(n)]


def all_but_one(n):
    return [[other for other in range(n) if other != person] for person in range(n)]


def rows_and_columns(side):
    """side times side people in a square, a pool for each row and each column."""
    rows = [[side * y + x for x in range(side)] for y in range(side)]
    return rows + [[side * y + x for y in range(side)] for x in range(side)]


def lines_of_a_plane(q):
    """q q people, q a prime, in q slopes of q lines: any two share a line at most."""
    return [[q * b + a for a in range(q) for b in range(q) if (a * x + b) % q == y] for x in range(q) for y in range(q)]


def plan_at_random(chance, n, m, share):
    """m pools of people up to n, who is not looked at, in any order, some of them told twice."""
    rows = []
    for k in range(m):
        row = [person for person in range(n + 1) if chance.random() < share]
        if row and chance.random() < 0.3:
            row.append(chance.choice(row))
        chance.shuffle(row)
        rows.append(row)
    return rows


def taken_apart(answer):
    """The pools that codes answered, each as a list."""
    pools = []
    place = 1
    while place < len(answer):
        pools.append(answer[place + 1:place + 1 + answer[place]])
        place += 1 + answer[place]
    assert place == len(answer), "the last pool is shorter than told"
    assert len(pools) == answer[0], "not as many pools as told"
    return pools
