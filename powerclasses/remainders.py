"""Remainders by an odd prime, and the numbers whose powers leave all of them."""

PRIME_BOUND = 200


def is_odd_prime(number):
    """Say whether number is an odd prime below the bound."""
    # The bound is asked first, so that a great number costs no long search.
    if number < 3 or number >= PRIME_BOUND or number % 2 == 0:
        return False
    for divisor in range(3, number, 2):
        if number % divisor == 0:
            return False
    return True


def powers_of(number, prime):
    """List what number leaves, multiplied by itself 0 to prime - 2 times."""
    powers = []
    power = 1
    for step in range(prime - 1):
        powers.append(power)
        power = power * number % prime
    return powers


def leaves_all(number, prime):
    """Say whether the powers of number leave every remainder by prime."""
    # Whole lists are compared: with prime 3 the powers of 0 are two different numbers too.
    return sorted(powers_of(number, prime)) == list(range(1, prime))


def least_root(prime):
    """Give the least number that leaves all remainders by prime."""
    root = 1
    while not leaves_all(root, prime):
        root = root + 1
    return root


def all_roots(prime):
    """List, rising, the remainders whose powers leave all remainders by prime."""
    return [number for number in range(1, prime) if leaves_all(number, prime)]
