"""differs, even and evenzero."""

import unittest

from tests.lines import EACH, GREATEST, LEAST_ROOTS, chunks, last, plain_members, plain_roots, run


def plain_differs(members, p):
    """How often each difference from 1 to p - 1 is met, by all ordered pairs."""
    often = {d: 0 for d in range(1, p)}
    for x in members:
        for y in members:
            if x != y:
                often[(x - y) % p] += 1
    return often


def plain_even(members, p):
    return 1 if len(set(plain_differs(members, p).values())) == 1 else 0


def all_classes(name, p, e, *between):
    """What even or evenzero answers for each class."""
    given = run(("begin", p, e), *between, *[(name, i) for i in range(e)])
    return [some[0] for some in given[1 + len(between):]]


def is_made(p, fixed, times):
    """Whether p is fixed and times the square of an odd number."""
    return any(fixed + times * n * n == p for n in range(1, p, 2))


class Differs(unittest.TestCase):
    def test_every_difference(self):
        for p, e in EACH:
            asked = range(1, p) if p < 45 else (1, 2, 3, p // 2, p - 2, p - 1)
            for i in range(e):
                often = plain_differs(plain_members(LEAST_ROOTS[p], p, e, i), p)
                for some in chunks(list(asked)):
                    with self.subTest(p=p, e=e, i=i, some=some[0]):
                        given = run(("begin", p, e), *[("differs", i, d) for d in some])[1:]
                        self.assertEqual(given, [[often[d]] for d in some])

    def test_written_out(self):
        # Class 0 is 1, 3, 4, 9, 10, 12.
        given = run(("begin", 13, 2), *[("differs", 0, d) for d in range(1, 13)])[1:]
        self.assertEqual(given, [[2], [3], [2], [2], [3], [3], [3], [3], [2], [2], [3], [2]])

    def test_differences_met_just_once(self):
        for p, e in ((7, 2), (73, 8)):
            for i in range(e):
                for some in chunks(list(range(1, p))):
                    with self.subTest(p=p, e=e, i=i, some=some[0]):
                        given = run(("begin", p, e), *[("differs", i, d) for d in some])[1:]
                        self.assertEqual(given, [[1]] * len(some))

    def test_ordered_pairs_come_to_all(self):
        for p, e in ((43, 6), (43, 2), (41, 8), (47, 2)):
            with self.subTest(p=p, e=e):
                each = (p - 1) // e
                given = run(("begin", p, e), *[("differs", e - 1, d) for d in range(1, p)])[1:]
                self.assertEqual(sum(some[0] for some in given), each * (each - 1))

    def test_class_0_differs_by_1_as_often_as_it_is_behind_itself(self):
        for p, e in EACH:
            with self.subTest(p=p, e=e):
                given = run(("begin", p, e), ("differs", 0, 1), ("behind", 0, 0))
                self.assertEqual(given[1], given[2])

    def test_one_in_each_has_no_difference(self):
        self.assertEqual(run(("begin", 3, 2), ("differs", 0, 1), ("differs", 1, 2))[1:], [[0], [0]])
        self.assertEqual(run(("begin", 7, 6), *[("differs", 5, d) for d in range(1, 7)])[1:], [[0]] * 6)

    def test_a_number_stands_for_what_it_leaves(self):
        # 4294967295 leaves 8 by 13.
        self.assertEqual(GREATEST % 13, 8)
        self.assertEqual(
            run(("begin", 13, 2), ("differs", 1, 8), ("differs", 1, 21), ("differs", 1, GREATEST),
                ("differs", 1, 7), ("differs", 1, GREATEST - 1))[1:],
            [[2], [2], [2], [2], [2]],
        )
        self.assertEqual(run(("begin", 13, 2), ("differs", 1, 14), ("differs", 1, 17))[1:], [[3], [3]])

    def test_what_leaves_0_is_refused(self):
        for p, e in EACH:
            for d in (0, p, 2 * p, GREATEST // p * p):
                with self.subTest(p=p, e=e, d=d):
                    self.assertEqual(run(("begin", p, e), ("differs", 0, d), ("differs", e - 1, d))[1:], [[-22]] * 2)

    def test_no_such_class_goes_ahead(self):
        for p, e in EACH:
            for i in (e, e + 1, p + 7, GREATEST):
                with self.subTest(p=p, e=e, i=i):
                    self.assertEqual(
                        run(("begin", p, e), ("differs", i, 1), ("differs", i, 0), ("differs", i, p))[1:], [[-2]] * 3,
                    )

    def test_after_split_other_and_begin(self):
        # In 3 classes, 1 has 2, 3, 5, 14, 16, 17, and 2 has 4, 6, 9, 10, 13, 15; by the root 10 they change places.
        self.assertEqual(
            run(("begin", 19, 2), ("differs", 1, 1), ("split", 3), ("differs", 1, 1), ("differs", 2, 1), ("other", 10),
                ("differs", 1, 1), ("differs", 2, 1), ("begin", 7, 2), ("differs", 1, 1), ("differs", 2, 1)),
            [[0], [4], [6], [2], [1], [17], [1], [2], [0], [1], [-2]],
        )


class Even(unittest.TestCase):
    def test_every_class(self):
        for p, e in EACH:
            with self.subTest(p=p, e=e):
                classes = [plain_members(LEAST_ROOTS[p], p, e, i) for i in range(e)]
                self.assertEqual(all_classes("even", p, e), [plain_even(some, p) for some in classes])
                self.assertEqual(all_classes("evenzero", p, e), [plain_even([0] + some, p) for some in classes])

    def test_just_by_primes_that_are_made_so(self):
        for p, e in EACH:
            with self.subTest(p=p, e=e):
                if e == 2:
                    made = p % 4 == 3
                elif e == 4:
                    made = is_made(p, 1, 4)
                elif e == 8:
                    made = is_made(p, 1, 8) and is_made(p, 9, 64)
                else:
                    # With one in each there is no difference at all, each as often.
                    made = e == p - 1
                self.assertEqual(all_classes("even", p, e), [int(made)] * e)

    def test_with_0_just_by_primes_that_are_made_so(self):
        for p, e in EACH:
            with self.subTest(p=p, e=e):
                made = (e == 2 and p % 4 == 3) or (e == 4 and is_made(p, 9, 4))
                self.assertEqual(all_classes("evenzero", p, e), [int(made)] * e)

    def test_which_primes_written_out(self):
        for e, primes in ((4, [5, 37, 101, 197]), (8, [73]), (3, []), (5, []), (6, [7]), (7, [])):
            with self.subTest(e=e):
                found = [p for p, some in EACH if some == e and last(("begin", p, e), ("even", 0)) == [1]]
                self.assertEqual(found, primes)
        for e, primes in ((4, [13, 109]), (8, []), (3, []), (5, []), (6, []), (7, [])):
            with self.subTest(e=e, zero=True):
                found = [p for p, some in EACH if some == e and last(("begin", p, e), ("evenzero", 0)) == [1]]
                self.assertEqual(found, primes)

    def test_the_prime_3(self):
        self.assertEqual(
            run(("begin", 3, 2), ("even", 0), ("even", 1), ("evenzero", 0), ("evenzero", 1))[1:], [[1]] * 4,
        )

    def test_the_prime_199(self):
        self.assertEqual(
            run(("begin", 199, 2), ("even", 0), ("evenzero", 1), ("split", 6), ("even", 0), ("evenzero", 1))[1:],
            [[1], [1], [33], [0], [0]],
        )

    def test_one_in_each(self):
        self.assertEqual(run(("begin", 5, 4), ("even", 3), ("evenzero", 3))[1:], [[1], [0]])
        self.assertEqual(run(("begin", 7, 6), ("even", 5), ("evenzero", 5))[1:], [[1], [0]])

    def test_0_makes_the_difference(self):
        self.assertEqual(run(("begin", 13, 4), ("even", 2), ("evenzero", 2))[1:], [[0], [1]])
        self.assertEqual(run(("begin", 37, 4), ("even", 2), ("evenzero", 2))[1:], [[1], [0]])

    def test_0_is_put_to_the_class_for_that_call_alone(self):
        self.assertEqual(
            run(("begin", 13, 4), ("evenzero", 0), ("members", 0), ("sum", 0), ("even", 0), ("evenzero", 0))[1:],
            [[1], [3, 1, 3, 9], [13], [0], [1]],
        )

    def test_by_another_root(self):
        for p, e in ((13, 4), (37, 4), (73, 8), (7, 2), (31, 5)):
            for g in plain_roots(p)[-3:]:
                for name in ("even", "evenzero"):
                    with self.subTest(p=p, e=e, g=g, name=name):
                        self.assertEqual(all_classes(name, p, e, ("other", g)), all_classes(name, p, e))

    def test_after_split_and_begin(self):
        self.assertEqual(
            run(("begin", 37, 4), ("even", 0), ("split", 2), ("even", 0), ("even", 2), ("begin", 13, 4), ("even", 2),
                ("evenzero", 2), ("split", 6), ("evenzero", 2)),
            [[0], [1], [18], [0], [-2], [0], [0], [1], [2], [0]],
        )

    def test_no_such_class(self):
        for p, e in EACH:
            for i in (e, e + 1, p + 7, GREATEST):
                with self.subTest(p=p, e=e, i=i):
                    self.assertEqual(run(("begin", p, e), ("even", i), ("evenzero", i))[1:], [[-2]] * 2)


if __name__ == "__main__":
    unittest.main()
