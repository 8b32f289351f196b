"""What the tests share: calls by name, answers taken apart, and a plain model."""

from powerclasses.classes import answers

NUMBERS = {
    "begin": 0, "split": 1, "other": 2, "root": 3, "roots": 4,
    "index": 5, "class": 6, "power": 7, "members": 8, "first": 9,
    "behind": 10, "row": 11, "table": 12, "differs": 13, "even": 14,
    "evenzero": 15, "sum": 16, "times": 17, "opposite": 18, "told": 19,
}
GREATEST = 4294967295

# The odd primes below 200, each with the least number that leaves all
# (a published table, not reckoned by the program).
LEAST_ROOTS = {
    3: 2, 5: 2, 7: 3, 11: 2, 13: 2, 17: 3, 19: 2, 23: 5, 29: 2, 31: 3,
    37: 2, 41: 6, 43: 3, 47: 5, 53: 2, 59: 2, 61: 2, 67: 2, 71: 7, 73: 5,
    79: 3, 83: 2, 89: 3, 97: 5, 101: 2, 103: 5, 107: 2, 109: 6, 113: 3,
    127: 3, 131: 2, 137: 3, 139: 2, 149: 2, 151: 6, 157: 5, 163: 2, 167: 5,
    173: 2, 179: 2, 181: 2, 191: 19, 193: 5, 197: 2, 199: 3,
}


def flat(calls):
    """Lay calls such as ("begin", 7, 3) one behind another in one list."""
    numbers = []
    for name, *told in calls:
        numbers += [NUMBERS[name], *told]
    return numbers


def parts(given):
    """Take the list that is given back apart, one list for each call."""
    taken = []
    place = 0
    while place < len(given):
        end = place + 1 + given[place]
        if end > len(given):
            raise ValueError("an answer is shorter than its count says")
        taken.append(given[place + 1:end])
        place = end
    return taken


def run(*calls):
    """Give each call's answer as a list."""
    taken = parts(answers(flat(calls)))
    if len(taken) != len(calls):
        raise ValueError(f"{len(calls)} calls, {len(taken)} answers")
    return taken


def last(*calls):
    """Give the last call's answer."""
    return run(*calls)[-1]


def index_by(root, x, p):
    """The index of x, by trying one power after another."""
    return next(n for n in range(p - 1) if pow(root, n, p) == x % p)


def splits(p):
    """The counts of classes that p allows."""
    return [e for e in range(2, 9) if (p - 1) % e == 0]


# Each prime with each count of classes that it allows.
EACH = [(p, e) for p in LEAST_ROOTS for e in splits(p)]


def plain_roots(p):
    """All numbers whose powers, reckoned one by one, are all remainders."""
    return [g for g in range(1, p) if len({pow(g, n, p) for n in range(p)}) == p - 1]


def plain_classes(root, p, e):
    """Each remainder's class, reckoned power by power."""
    return {pow(root, n, p): n % e for n in range(p - 1)}


def plain_members(root, p, e, i):
    """The remainders of class i, reckoned power by power."""
    return sorted(pow(root, n, p) for n in range(p - 1) if n % e == i)


def plain_table(root, p, e):
    """The rows, reckoned by a walk over the remainders and the ones behind them."""
    classes = plain_classes(root, p, e)
    rows = [[0] * e for i in range(e)]
    for x in range(1, p - 1):
        rows[classes[x]][classes[x + 1]] += 1
    return rows


def rows_of(table):
    """Cut what table answers into its rows."""
    count, *numbers = table
    e = next(e for e in range(2, 9) if e * e == count)
    if len(numbers) != count:
        raise ValueError("the table has not as many numbers as it says")
    return [numbers[place:place + e] for place in range(0, count, e)]


def chunks(asked):
    """Cut what is asked so that a begin, another call and it are at most 60 calls."""
    return [asked[place:place + 50] for place in range(0, len(asked), 50)]
