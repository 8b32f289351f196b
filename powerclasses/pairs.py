"""Pairs of remainders: one right behind another, and one less another."""


def count_behind(members, others):
    """Count the members that have one of the others right behind them."""
    # What is behind prime - 1 leaves 0 and is among no others, so no bound is asked.
    return len([member for member in members if member + 1 in others])


def difference_counts(members, prime):
    """List, by what is left from 0 on, how many ordered pairs differ by it."""
    counts = [0] * prime
    for one in members:
        for another in members:
            difference = (one - another) % prime
            counts[difference] = counts[difference] + 1
    return counts


def differ_evenly(members, prime):
    """Say whether each difference from 1 to prime - 1 comes as often."""
    counts = difference_counts(members, prime)[1:]
    return min(counts) == max(counts)
