"""other, root and roots."""

import unittest

from tests.lines import GREATEST, LEAST_ROOTS, index_by, last, plain_roots, run


class Roots(unittest.TestCase):
    def test_the_least(self):
        for p, root in LEAST_ROOTS.items():
            with self.subTest(p=p):
                self.assertEqual(last(("begin", p, 2), ("root",)), [root])

    def test_all_rising_behind_their_count(self):
        for p in LEAST_ROOTS:
            with self.subTest(p=p):
                roots = plain_roots(p)
                self.assertEqual(last(("begin", p, 2), ("roots",)), [len(roots)] + roots)

    def test_written_out(self):
        self.assertEqual(last(("begin", 13, 2), ("roots",)), [4, 2, 6, 7, 11])
        self.assertEqual(last(("begin", 19, 2), ("roots",)), [6, 2, 3, 10, 13, 14, 15])

    def test_another_root_leaves_both_as_they_were(self):
        self.assertEqual(
            run(("begin", 13, 2), ("other", 11), ("root",), ("roots",), ("power", 1)),
            [[0], [7], [2], [4, 2, 6, 7, 11], [11]],
        )


class Other(unittest.TestCase):
    def test_what_its_index_was(self):
        for p, root in LEAST_ROOTS.items():
            for g in plain_roots(p):
                with self.subTest(p=p, g=g):
                    self.assertEqual(last(("begin", p, 2), ("other", g)), [index_by(root, g, p)])

    def test_it_is_the_root(self):
        self.assertEqual(
            run(("begin", 13, 4), ("other", 7), ("power", 1), ("power", 2), ("index", 2), ("class", 2),
                ("members", 1), ("first", 3)),
            [[0], [11], [7], [10], [11], [3], [3, 7, 8, 11], [2]],
        )

    def test_one_behind_another_by_the_root_in_use(self):
        self.assertEqual(
            run(("begin", 13, 2), ("other", 6), ("other", 7), ("other", 11), ("other", 2)),
            [[0], [5], [7], [5], [7]],
        )

    def test_another_and_back(self):
        asked = [("index", x) for x in range(1, 13)] + [("members", i) for i in range(4)]
        before = run(("begin", 13, 4), *asked)[1:]
        after = run(("begin", 13, 4), ("other", 6), ("other", 2), *asked)[3:]
        between = run(("begin", 13, 4), ("other", 6), *asked)[2:]
        self.assertEqual(after, before)
        self.assertNotEqual(between, before)

    def test_the_root_itself(self):
        self.assertEqual(run(("begin", 7, 3), ("other", 3), ("other", 3), ("power", 1))[1:], [[1], [1], [3]])

    def test_a_number_stands_for_what_it_leaves(self):
        self.assertEqual(run(("begin", 7, 3), ("other", 12), ("power", 1))[1:], [[5], [5]])
        # 4294967295 leaves 3 by 7.
        self.assertEqual(run(("begin", 7, 3), ("other", 5), ("other", GREATEST), ("power", 1))[1:], [[5], [5], [3]])

    def test_what_leaves_0_is_refused(self):
        for p in LEAST_ROOTS:
            for g in (0, p, 2 * p, GREATEST // p * p):
                with self.subTest(p=p, g=g):
                    self.assertEqual(last(("begin", p, 2), ("other", g)), [-22])

    def test_what_does_not_leave_all_is_refused(self):
        for p in LEAST_ROOTS:
            roots = plain_roots(p)
            for g in range(1, p):
                if g not in roots:
                    with self.subTest(p=p, g=g):
                        self.assertEqual(last(("begin", p, 2), ("other", g)), [-22])

    def test_a_refused_one_changes_nothing(self):
        for g in (0, 7, 1, 2, 4, 6, 13):
            with self.subTest(g=g):
                self.assertEqual(
                    run(("begin", 7, 3), ("other", 5), ("other", g), ("power", 1), ("index", 3), ("members", 1)),
                    [[0], [5], [-22], [5], [5], [2, 2, 5]],
                )


if __name__ == "__main__":
    unittest.main()
