"""Classes of the remainders by a prime, told by powers of a root."""
