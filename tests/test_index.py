"""index, class and power."""

import unittest

from tests.lines import GREATEST, LEAST_ROOTS, chunks, index_by, last, run, splits


class Index(unittest.TestCase):
    def test_every_remainder(self):
        for p, root in LEAST_ROOTS.items():
            for some in chunks(list(range(1, p))):
                with self.subTest(p=p, some=some[0]):
                    given = run(("begin", p, 2), *[("index", x) for x in some])[1:]
                    self.assertEqual(given, [[index_by(root, x, p)] for x in some])

    def test_written_out(self):
        given = run(("begin", 7, 3), *[("index", x) for x in range(1, 7)])[1:]
        self.assertEqual(given, [[0], [2], [1], [4], [5], [3]])

    def test_by_another_root(self):
        given = run(("begin", 7, 3), ("other", 5), *[("index", x) for x in range(1, 7)])[2:]
        self.assertEqual(given, [[0], [4], [5], [2], [1], [3]])

    def test_a_number_stands_for_what_it_leaves(self):
        self.assertEqual(
            run(("begin", 199, 2), ("index", 200), ("index", 199 + 3), ("index", GREATEST))[1:],
            [[0], [1], [index_by(3, GREATEST, 199)]],
        )

    def test_what_leaves_0_is_refused(self):
        for p in LEAST_ROOTS:
            for x in (0, p, 3 * p, GREATEST // p * p):
                with self.subTest(p=p, x=x):
                    self.assertEqual(run(("begin", p, 2), ("index", x), ("class", x))[1:], [[-22], [-22]])


class ClassOf(unittest.TestCase):
    def test_every_remainder(self):
        for p, root in LEAST_ROOTS.items():
            indexes = {pow(root, n, p): n for n in range(p - 1)}
            for e in splits(p):
                for some in chunks(list(range(1, p))):
                    with self.subTest(p=p, e=e, some=some[0]):
                        given = run(("begin", p, e), *[("class", x) for x in some])[1:]
                        self.assertEqual(given, [[indexes[x] % e] for x in some])

    def test_two_classes_are_squares_and_others(self):
        given = run(("begin", 11, 2), *[("class", x) for x in range(1, 11)])[1:]
        self.assertEqual(given, [[0], [1], [0], [0], [0], [1], [1], [1], [0], [1]])

    def test_class_0_has_1_by_every_root(self):
        for g in (2, 6, 7, 11):
            with self.subTest(g=g):
                self.assertEqual(last(("begin", 13, 6), ("other", g), ("class", 1)), [0])

    def test_by_another_root(self):
        self.assertEqual(run(("begin", 13, 3), ("class", 2), ("other", 7), ("class", 2)), [[0], [1], [11], [2]])

    def test_a_number_stands_for_what_it_leaves(self):
        # 4294967295 leaves 3 by 7.
        self.assertEqual(run(("begin", 7, 3), ("class", 12), ("class", GREATEST))[1:], [[2], [1]])


class Power(unittest.TestCase):
    def test_small_counts(self):
        for p, root in LEAST_ROOTS.items():
            with self.subTest(p=p):
                given = run(("begin", p, 2), *[("power", n) for n in range(50)])[1:]
                self.assertEqual(given, [[pow(root, n, p)] for n in range(50)])

    def test_great_counts(self):
        for p, root in LEAST_ROOTS.items():
            for n in (p - 2, p - 1, p, 2 * p, 1000000, GREATEST - 1, GREATEST):
                with self.subTest(p=p, n=n):
                    self.assertEqual(last(("begin", p, 2), ("power", n)), [pow(root, n, p)])

    def test_written_out(self):
        given = run(("begin", 7, 2), *[("power", n) for n in range(9)])[1:]
        self.assertEqual(given, [[1], [3], [2], [6], [4], [5], [1], [3], [2]])

    def test_1_for_0_by_every_root(self):
        for g in (2, 6, 7, 11):
            with self.subTest(g=g):
                self.assertEqual(last(("begin", 13, 2), ("other", g), ("power", 0)), [1])

    def test_by_another_root(self):
        given = run(("begin", 13, 2), ("other", 6), ("power", 3), ("power", GREATEST))[2:]
        self.assertEqual(given, [[8], [pow(6, GREATEST, 13)]])


if __name__ == "__main__":
    unittest.main()
