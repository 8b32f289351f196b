"""sum, times and opposite."""

import unittest

from tests.lines import EACH, GREATEST, LEAST_ROOTS, chunks, last, plain_classes, plain_members, plain_roots, run


class Sum(unittest.TestCase):
    def test_every_class(self):
        for p, e in EACH:
            with self.subTest(p=p, e=e):
                given = run(("begin", p, e), *[("sum", i) for i in range(e)])[1:]
                self.assertEqual(given, [[sum(plain_members(LEAST_ROOTS[p], p, e, i))] for i in range(e)])

    def test_written_out(self):
        # 1, 2, 4 and 3, 5, 6: the sum is whole, not what it leaves.
        self.assertEqual(run(("begin", 7, 2), ("sum", 0), ("sum", 1))[1:], [[7], [14]])
        self.assertEqual(run(("begin", 13, 3), ("sum", 0), ("sum", 1), ("sum", 2))[1:], [[26], [26], [26]])

    def test_the_primes_3_and_199(self):
        self.assertEqual(run(("begin", 3, 2), ("sum", 0), ("sum", 1))[1:], [[1], [2]])
        # The squares come to 9 times 199 less than the others: 9 is the class number that tables have for -199.
        self.assertEqual(run(("begin", 199, 2), ("sum", 0), ("sum", 1))[1:], [[8955], [10746]])

    def test_one_in_each(self):
        self.assertEqual(run(("begin", 5, 4), *[("sum", i) for i in range(5)])[1:], [[1], [2], [4], [3], [-2]])

    def test_all_classes_come_to_all_remainders(self):
        for p, e in EACH:
            with self.subTest(p=p, e=e):
                given = run(("begin", p, e), *[("sum", i) for i in range(e)])[1:]
                self.assertEqual(sum(some[0] for some in given), p * (p - 1) // 2)

    def test_after_split_other_and_begin(self):
        self.assertEqual(
            run(("begin", 7, 2), ("sum", 1), ("split", 6), ("sum", 1), ("other", 5), ("sum", 1), ("sum", 5),
                ("begin", 5, 2), ("sum", 1), ("sum", 2)),
            [[0], [14], [1], [3], [5], [5], [3], [0], [5], [-2]],
        )

    def test_no_such_class(self):
        for p, e in EACH:
            for i in (e, e + 1, p + 7, GREATEST):
                with self.subTest(p=p, e=e, i=i):
                    self.assertEqual(run(("begin", p, e), ("sum", i), ("opposite", i))[1:], [[-2]] * 2)


class Times(unittest.TestCase):
    def check(self, root, p, e, factors, *between):
        classes = plain_classes(root, p, e)
        for some in chunks([(i, a) for i in range(e) for a in factors]):
            given = run(("begin", p, e), *between, *[("times", i, a) for i, a in some])[1 + len(between):]
            for (i, a), answer in zip(some, given, strict=True):
                expected = {classes[x * a % p] for x in plain_members(root, p, e, i)}
                self.assertEqual({*answer}, expected, (p, e, i, a))

    def test_every_class_and_number(self):
        for p, e in EACH:
            with self.subTest(p=p, e=e):
                self.check(LEAST_ROOTS[p], p, e, range(1, p) if p < 45 else (1, 2, 3, 5, 7, p - 1))

    def test_by_another_root(self):
        for p, e in EACH:
            with self.subTest(p=p, e=e):
                g = plain_roots(p)[-1]
                self.check(g, p, e, (1, 2, p - 1), ("other", g))

    def test_written_out(self):
        # By 2, 1, 5, 8, 12 come to 2, 10, 3, 11, and 4, 6, 7, 9 to 8, 12, 1, 5.
        self.assertEqual(
            run(("begin", 13, 3), ("times", 0, 2), ("times", 1, 2), ("times", 2, 2), ("times", 2, 4), ("times", 1, 1))
            [1:],
            [[1], [2], [0], [1], [1]],
        )

    def test_the_prime_3(self):
        self.assertEqual(
            run(("begin", 3, 2), ("times", 0, 1), ("times", 0, 2), ("times", 1, 2), ("times", 1, 4))[1:],
            [[0], [1], [0], [1]],
        )

    def test_class_0_by_a_number_is_the_number_s_class(self):
        for p, e in ((199, 6), (197, 7), (193, 8), (191, 5)):
            with self.subTest(p=p, e=e):
                asked = (1, 2, 3, p - 1, p + 2, GREATEST)
                given = run(("begin", p, e), *[("times", 0, a) for a in asked], *[("class", a) for a in asked])[1:]
                self.assertEqual(given[:6], given[6:])

    def test_a_number_stands_for_what_it_leaves(self):
        # 4294967295 leaves 3 by 7, and 3 is of class 1.
        self.assertEqual(
            run(("begin", 7, 3), ("times", 1, GREATEST), ("times", 2, GREATEST), ("times", 2, 10))[1:],
            [[2], [0], [0]],
        )

    def test_what_leaves_0_is_refused(self):
        for p, e in EACH:
            for a in (0, p, 2 * p, GREATEST // p * p):
                with self.subTest(p=p, e=e, a=a):
                    self.assertEqual(run(("begin", p, e), ("times", 0, a), ("times", e - 1, a))[1:], [[-22]] * 2)

    def test_no_such_class_goes_ahead(self):
        for p, e in EACH:
            for i in (e, e + 1, p + 7, GREATEST):
                with self.subTest(p=p, e=e, i=i):
                    self.assertEqual(
                        run(("begin", p, e), ("times", i, 1), ("times", i, 0), ("times", i, p))[1:], [[-2]] * 3,
                    )

    def test_after_split_and_begin(self):
        self.assertEqual(
            run(("begin", 13, 3), ("times", 2, 2), ("split", 4), ("times", 2, 2), ("split", 2), ("times", 1, 2),
                ("begin", 7, 6), ("times", 5, 5), ("begin", 7, 2), ("times", 2, 2)),
            [[0], [0], [3], [3], [6], [0], [0], [4], [0], [-2]],
        )


class Opposite(unittest.TestCase):
    def test_every_class(self):
        for p, e in EACH:
            with self.subTest(p=p, e=e):
                for root, between in ((LEAST_ROOTS[p], []), (plain_roots(p)[-1], [("other", plain_roots(p)[-1])])):
                    classes = plain_classes(root, p, e)
                    given = run(("begin", p, e), *between, *[("opposite", i) for i in range(e)])[1 + len(between):]
                    for i in range(e):
                        expected = {classes[p - x] for x in plain_members(root, p, e, i)}
                        self.assertEqual({*given[i]}, expected)

    def test_an_even_number_in_each_is_its_own(self):
        self.assertEqual(run(("begin", 13, 3), *[("opposite", i) for i in range(3)])[1:], [[0], [1], [2]])
        self.assertEqual(run(("begin", 17, 8), *[("opposite", i) for i in range(8)])[1:], [[i] for i in range(8)])

    def test_an_odd_number_in_each_is_half_way_round(self):
        self.assertEqual(run(("begin", 13, 4), *[("opposite", i) for i in range(4)])[1:], [[2], [3], [0], [1]])
        given = run(("begin", 199, 6), *[("opposite", i) for i in range(6)])[1:]
        self.assertEqual(given, [[3], [4], [5], [0], [1], [2]])

    def test_the_prime_3(self):
        self.assertEqual(run(("begin", 3, 2), ("opposite", 0), ("opposite", 1), ("opposite", 2))[1:], [[1], [0], [-2]])

    def test_it_is_times_p_less_1(self):
        for p, e in EACH:
            with self.subTest(p=p, e=e):
                opposites = run(("begin", p, e), *[("opposite", i) for i in range(e)])
                self.assertEqual(opposites, run(("begin", p, e), *[("times", i, p - 1) for i in range(e)]))

    def test_after_split_and_begin(self):
        self.assertEqual(
            run(("begin", 13, 4), ("opposite", 1), ("split", 6), ("opposite", 1), ("begin", 7, 6), ("opposite", 1),
                ("split", 2), ("opposite", 1), ("opposite", 2)),
            [[0], [3], [2], [1], [0], [4], [3], [0], [-2]],
        )


if __name__ == "__main__":
    unittest.main()
