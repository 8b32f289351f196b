"""The calls on one object: a prime, its root, and the classes its remainders fall into."""

from powerclasses.pairs import count_behind
from powerclasses.pairs import differ_evenly
from powerclasses.pairs import difference_counts
from powerclasses.remainders import all_roots
from powerclasses.remainders import is_odd_prime
from powerclasses.remainders import least_root
from powerclasses.remainders import leaves_all
from powerclasses.remainders import powers_of

NO_CLASS = -2
NOT_BEGUN = -11
BAD_NUMBER = -22
BAD_SPLIT = -33

FEWEST_CLASSES = 2
MOST_CLASSES = 8

BEGIN = 0

# How many numbers stand behind each call's own number.
ARGUMENT_COUNTS = (2, 1, 1, 0, 0, 1, 1, 1, 1, 1, 2, 1, 0, 2, 1, 1, 1, 2, 1, 0)


class PowerClasses:
    """A prime, how many classes there are, and the root's powers by their index."""

    def __init__(self):
        # No prime is 0, so 0 says that no begin has been answered 0 yet.
        self.prime = 0
        self.class_count = 0
        self.powers = []


def can_split(prime, class_count):
    """Say whether the remainders by prime fall into so many classes."""
    if class_count < FEWEST_CLASSES or class_count > MOST_CLASSES:
        return False
    return (prime - 1) % class_count == 0


def index_of(held, remainder):
    """Give how often the root is multiplied by itself to leave remainder."""
    return held.powers.index(remainder)


def class_of(held, remainder):
    """Give the class that a remainder is of."""
    return index_of(held, remainder) % held.class_count


def has_class(held, number):
    """Say whether there is a class with this number."""
    return number < held.class_count


def members_of(held, number):
    """List, rising, the remainders of the class with this number."""
    # A class's indexes lie class_count apart, since class_count divides prime - 1.
    return sorted(held.powers[number::held.class_count])


def row_of(held, number):
    """List how many of a class have one of each class right behind them."""
    members = members_of(held, number)
    return [count_behind(members, members_of(held, other)) for other in range(held.class_count)]


def answer_begin(held, told):
    """Take a prime and how many classes it has, with the least root."""
    prime = told[0]
    class_count = told[1]
    if not is_odd_prime(prime):
        return [BAD_NUMBER]
    if not can_split(prime, class_count):
        return [BAD_SPLIT]
    held.prime = prime
    held.class_count = class_count
    held.powers = powers_of(least_root(prime), prime)
    return [0]


def answer_split(held, told):
    """Take another count of classes; say how many remainders are in each."""
    class_count = told[0]
    if not can_split(held.prime, class_count):
        return [BAD_SPLIT]
    held.class_count = class_count
    return [(held.prime - 1) // class_count]


def answer_other(held, told):
    """Take another root; say what its index was by the root before."""
    root = told[0] % held.prime
    if not leaves_all(root, held.prime):
        return [BAD_NUMBER]
    index = index_of(held, root)
    held.powers = powers_of(root, held.prime)
    return [index]


def answer_root(held, told):
    """Give the least number that leaves all, whichever root is in use."""
    return [least_root(held.prime)]


def answer_roots(held, told):
    """Give how many remainders leave all, then these."""
    roots = all_roots(held.prime)
    return [len(roots)] + roots


def answer_index(held, told):
    """Give a number's index by the root."""
    remainder = told[0] % held.prime
    if remainder == 0:
        return [BAD_NUMBER]
    return [index_of(held, remainder)]


def answer_class(held, told):
    """Give the class that a number is of."""
    remainder = told[0] % held.prime
    if remainder == 0:
        return [BAD_NUMBER]
    return [class_of(held, remainder)]


def answer_power(held, told):
    """Give what the root leaves, multiplied by itself so many times."""
    # The powers come again after prime - 1 of them, so a great count needs no long walk.
    return [held.powers[told[0] % (held.prime - 1)]]


def answer_members(held, told):
    """Give how many remainders are of a class, then these."""
    if not has_class(held, told[0]):
        return [NO_CLASS]
    members = members_of(held, told[0])
    return [len(members)] + members


def answer_first(held, told):
    """Give the least remainder of a class."""
    if not has_class(held, told[0]):
        return [NO_CLASS]
    return [members_of(held, told[0])[0]]


def answer_behind(held, told):
    """Give how many of one class have one of another right behind them."""
    if not has_class(held, told[0]) or not has_class(held, told[1]):
        return [NO_CLASS]
    return [count_behind(members_of(held, told[0]), members_of(held, told[1]))]


def answer_row(held, told):
    """Give how many classes there are, then how many of a class have each behind them."""
    if not has_class(held, told[0]):
        return [NO_CLASS]
    return [held.class_count] + row_of(held, told[0])


def answer_table(held, told):
    """Give how many numbers all rows have, then these, row by row."""
    table = []
    for number in range(held.class_count):
        table.extend(row_of(held, number))
    return [len(table)] + table


def answer_differs(held, told):
    """Give how many ordered pairs of a class differ by a number."""
    if not has_class(held, told[0]):
        return [NO_CLASS]
    difference = told[1] % held.prime
    if difference == 0:
        return [BAD_NUMBER]
    return [difference_counts(members_of(held, told[0]), held.prime)[difference]]


def answer_even(held, told):
    """Give 1 if each difference comes as often within a class, else 0."""
    if not has_class(held, told[0]):
        return [NO_CLASS]
    return [1 if differ_evenly(members_of(held, told[0]), held.prime) else 0]


def answer_evenzero(held, told):
    """Give 1 if each difference comes as often within a class and 0, else 0."""
    if not has_class(held, told[0]):
        return [NO_CLASS]
    return [1 if differ_evenly([0] + members_of(held, told[0]), held.prime) else 0]


def answer_sum(held, told):
    """Give all remainders of a class together."""
    if not has_class(held, told[0]):
        return [NO_CLASS]
    return [sum(members_of(held, told[0]))]


def answer_times(held, told):
    """Give the class that a class is multiplied into by a number."""
    if not has_class(held, told[0]):
        return [NO_CLASS]
    factor = told[1] % held.prime
    if factor == 0:
        return [BAD_NUMBER]
    # Indexes are added where remainders are multiplied, so one member speaks for all.
    return [class_of(held, members_of(held, told[0])[0] * factor % held.prime)]


def answer_opposite(held, told):
    """Give the class of what the prime is more than those of a class."""
    if not has_class(held, told[0]):
        return [NO_CLASS]
    # To take from the prime is to multiply by prime - 1, so one member speaks for all.
    return [class_of(held, held.prime - members_of(held, told[0])[0])]


def answer_told(held, told):
    """Give the prime, how many classes there are, and the root in use."""
    return [held.prime, held.class_count, held.powers[1]]


# Each stands at the place of its call's number.
ANSWERERS = (
    answer_begin,
    answer_split,
    answer_other,
    answer_root,
    answer_roots,
    answer_index,
    answer_class,
    answer_power,
    answer_members,
    answer_first,
    answer_behind,
    answer_row,
    answer_table,
    answer_differs,
    answer_even,
    answer_evenzero,
    answer_sum,
    answer_times,
    answer_opposite,
    answer_told,
)


def answer_call(held, call, told):
    """Answer one call, told with its numbers, on the object."""
    if call != BEGIN and held.prime == 0:
        return [NOT_BEGUN]
    answerer = ANSWERERS[call]
    return answerer(held, told)


def answers(calls):
    """Answer the calls in order on a new object, each answer behind its length."""
    held = PowerClasses()
    given = []
    place = 0
    while place < len(calls):
        call = calls[place]
        end = place + 1 + ARGUMENT_COUNTS[call]
        answer = answer_call(held, call, calls[place + 1:end])
        given.append(len(answer))
        given.extend(answer)
        place = end
    return given
