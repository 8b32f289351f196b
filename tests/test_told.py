"""told: the prime, how many classes there are, and the root in use."""

import unittest

from tests.lines import EACH, GREATEST, LEAST_ROOTS, last, plain_roots, run

# Calls that are refused once 13 is begun in 4 classes, with what refuses them.
REFUSED = [
    (("begin", 9, 2), -22), (("begin", 0, 0), -22), (("begin", GREATEST, 2), -22), (("begin", 7, 4), -33),
    (("begin", 7, GREATEST), -33), (("split", 5), -33), (("split", 12), -33), (("split", 0), -33),
    (("split", GREATEST), -33), (("other", 0), -22), (("other", 26), -22), (("other", 3), -22), (("other", 1), -22),
    (("index", 13), -22), (("class", 0), -22), (("members", 4), -2), (("first", 4), -2), (("behind", 4, 0), -2),
    (("behind", 0, 4), -2), (("row", 4), -2), (("differs", 4, 0), -2), (("differs", 3, 13), -22), (("even", 4), -2),
    (("evenzero", 4), -2), (("sum", 4), -2), (("times", 4, 0), -2), (("times", 3, 0), -22), (("opposite", 4), -2),
]

# One of each call that only asks, with numbers that are not refused.
ASKED = [
    ("root",), ("roots",), ("index", 5), ("class", 5), ("power", GREATEST), ("members", 3), ("first", 3),
    ("behind", 0, 3), ("row", 3), ("table",), ("differs", 3, 5), ("even", 3), ("evenzero", 3), ("sum", 3),
    ("times", 3, 5), ("opposite", 3), ("told",),
]


class Told(unittest.TestCase):
    def test_after_every_begin(self):
        for p, e in EACH:
            with self.subTest(p=p, e=e):
                self.assertEqual(last(("begin", p, e), ("told",)), [p, e, LEAST_ROOTS[p]])

    def test_after_split(self):
        self.assertEqual(
            run(("begin", 13, 2), ("split", 6), ("told",), ("split", 3), ("told",))[1:],
            [[2], [13, 6, 2], [4], [13, 3, 2]],
        )

    def test_after_other_the_root_is_that_one(self):
        for p in LEAST_ROOTS:
            for g in plain_roots(p):
                with self.subTest(p=p, g=g):
                    self.assertEqual(last(("begin", p, 2), ("other", g), ("told",)), [p, 2, g])

    def test_the_root_is_told_as_a_remainder(self):
        # 4294967295 leaves 3 by 7.
        self.assertEqual(run(("begin", 7, 3), ("other", 12), ("told",), ("other", GREATEST), ("told",))[1:],
                         [[5], [7, 3, 5], [5], [7, 3, 3]])

    def test_another_root_and_back(self):
        self.assertEqual(
            run(("begin", 13, 4), ("other", 11), ("told",), ("root",), ("other", 2), ("told",))[1:],
            [[7], [13, 4, 11], [2], [7], [13, 4, 2]],
        )

    def test_after_a_second_begin(self):
        self.assertEqual(
            run(("begin", 13, 4), ("other", 11), ("begin", 13, 3), ("told",), ("begin", 199, 6), ("told",))[2:],
            [[0], [13, 3, 2], [0], [199, 6, 3]],
        )

    def test_the_prime_3(self):
        self.assertEqual(run(("begin", 3, 2), ("told",), ("other", 2), ("told",))[1:], [[3, 2, 2], [1], [3, 2, 2]])


class NothingChanges(unittest.TestCase):
    def test_by_a_refused_call(self):
        begun = [("begin", 13, 4), ("other", 7)]
        before = run(*begun, *ASKED)[2:]
        for call, refusal in REFUSED:
            with self.subTest(call=call):
                given = run(*begun, call, *ASKED)
                self.assertEqual(given[2], [refusal])
                self.assertEqual(given[3:], before)

    def test_by_all_refused_calls_one_behind_another(self):
        given = run(("begin", 13, 4), ("other", 7), *[call for call, refusal in REFUSED], *ASKED)
        self.assertEqual(given[2:2 + len(REFUSED)], [[refusal] for call, refusal in REFUSED])
        self.assertEqual(given[2 + len(REFUSED):], run(("begin", 13, 4), ("other", 7), *ASKED)[2:])

    def test_by_asking(self):
        given = run(("begin", 13, 4), ("other", 7), *ASKED, *reversed(ASKED), *ASKED)[2:]
        count = len(ASKED)
        self.assertEqual(given[:count], given[2 * count:])
        self.assertEqual(given[:count], given[count:2 * count][::-1])

    def test_nothing_but_a_refusal_is_below_0(self):
        for p, e in EACH:
            with self.subTest(p=p, e=e):
                given = run(("begin", p, e), ("roots",), ("members", 0), ("row", 0), ("table",), ("differs", 0, 1),
                            ("even", 0), ("evenzero", 0), ("sum", 0), ("times", 0, 1), ("opposite", 0), ("told",))
                self.assertGreaterEqual(min(min(some) for some in given), 0)


if __name__ == "__main__":
    unittest.main()
