"""begin and split."""

import unittest

from tests.lines import GREATEST, LEAST_ROOTS, last, run, splits


class Begin(unittest.TestCase):
    def test_just_the_odd_primes_below_200(self):
        for p in range(0, 420):
            with self.subTest(p=p):
                self.assertEqual(run(("begin", p, 2)), [[0 if p in LEAST_ROOTS else -22]])

    def test_greater_numbers_are_refused(self):
        for p in (211, 65537, 4294967291, GREATEST - 1, GREATEST):
            with self.subTest(p=p):
                self.assertEqual(run(("begin", p, 2), ("root",)), [[-22], [-11]])

    def test_just_the_counts_that_divide(self):
        for p in LEAST_ROOTS:
            for e in range(0, 12):
                with self.subTest(p=p, e=e):
                    self.assertEqual(run(("begin", p, e)), [[0 if e in splits(p) else -33]])

    def test_counts_that_divide_but_are_out_of_bounds(self):
        self.assertEqual(run(("begin", 19, 1), ("begin", 19, 9), ("begin", 19, 18)), [[-33]] * 3)
        self.assertEqual(run(("begin", 7, 0), ("begin", 7, GREATEST)), [[-33]] * 2)

    def test_the_prime_is_refused_ahead_of_the_count(self):
        for p in (0, 1, 2, 9, 201, GREATEST):
            for e in (0, 1, 9, GREATEST):
                with self.subTest(p=p, e=e):
                    self.assertEqual(run(("begin", p, e)), [[-22]])

    def test_the_least_root_is_the_root(self):
        for p, root in LEAST_ROOTS.items():
            with self.subTest(p=p):
                self.assertEqual(last(("begin", p, 2), ("power", 1)), [root])

    def test_the_prime_3(self):
        self.assertEqual(
            run(("begin", 3, 2), ("root",), ("roots",), ("members", 0), ("members", 1), ("first", 1),
                ("index", 1), ("index", 2), ("power", 2), ("other", 2), ("begin", 3, 3)),
            [[0], [2], [1, 2], [1, 1], [1, 2], [2], [0], [1], [1], [1], [-33]],
        )

    def test_the_prime_199(self):
        self.assertEqual(
            run(("begin", 199, 6), ("root",), ("split", 2), ("split", 3), ("split", 4), ("index", 198)),
            [[0], [3], [99], [66], [-33], [99]],
        )


class SecondBegin(unittest.TestCase):
    def test_prime_count_and_root_are_new(self):
        self.assertEqual(
            run(("begin", 7, 3), ("other", 5), ("begin", 13, 4), ("root",), ("power", 1), ("members", 3),
                ("index", 12)),
            [[0], [5], [0], [2], [2], [3, 7, 8, 11], [6]],
        )

    def test_the_same_prime_has_its_least_root_again(self):
        self.assertEqual(
            run(("begin", 7, 3), ("other", 5), ("index", 3), ("begin", 7, 2), ("index", 3), ("members", 2)),
            [[0], [5], [5], [0], [1], [-2]],
        )

    def test_a_refused_one_changes_nothing(self):
        for told, refusal in (((9, 2), -22), ((0, 2), -22), ((13, 5), -33), ((13, 0), -33), ((7, 4), -33)):
            with self.subTest(told=told):
                self.assertEqual(
                    run(("begin", 7, 3), ("other", 5), ("begin", *told), ("power", 1), ("index", 3),
                        ("members", 2), ("members", 3), ("roots",)),
                    [[0], [5], [refusal], [5], [5], [2, 3, 4], [-2], [2, 3, 5]],
                )


class Split(unittest.TestCase):
    def test_how_many_are_in_each(self):
        for p in LEAST_ROOTS:
            for e in range(0, 12):
                with self.subTest(p=p, e=e):
                    expected = (p - 1) // e if e in splits(p) else -33
                    self.assertEqual(last(("begin", p, 2), ("split", e)), [expected])

    def test_the_classes_are_others(self):
        self.assertEqual(
            run(("begin", 13, 2), ("class", 8), ("split", 4), ("class", 8), ("members", 3), ("split", 6),
                ("members", 5), ("split", 2), ("members", 2)),
            [[0], [1], [3], [3], [3, 7, 8, 11], [2], [2, 6, 7], [6], [-2]],
        )

    def test_as_many_classes_as_remainders(self):
        self.assertEqual(
            run(("begin", 7, 2), ("split", 6), ("members", 0), ("members", 5), ("members", 6)),
            [[0], [1], [1, 1], [1, 5], [-2]],
        )
        self.assertEqual(run(("begin", 5, 2), ("split", 4), ("first", 3)), [[0], [1], [3]])

    def test_the_root_stays(self):
        self.assertEqual(run(("begin", 7, 3), ("other", 5), ("split", 2), ("power", 1))[2:], [[3], [5]])

    def test_a_refused_one_changes_nothing(self):
        for e in (0, 1, 4, 5, 7, 8, 9, 18, GREATEST):
            with self.subTest(e=e):
                self.assertEqual(
                    run(("begin", 19, 3), ("split", e), ("members", 2), ("members", 3))[1:],
                    [[-33], [6, 4, 6, 9, 10, 13, 15], [-2]],
                )


if __name__ == "__main__":
    unittest.main()
