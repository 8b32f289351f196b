"""members and first."""

import unittest

from tests.lines import GREATEST, LEAST_ROOTS, last, plain_members, run, splits


class Members(unittest.TestCase):
    def test_every_class(self):
        for p, root in LEAST_ROOTS.items():
            for e in splits(p):
                with self.subTest(p=p, e=e):
                    classes = [plain_members(root, p, e, i) for i in range(e)]
                    given = run(("begin", p, e), *[("members", i) for i in range(e)])[1:]
                    self.assertEqual(given, [[len(some)] + some for some in classes])
                    firsts = run(("begin", p, e), *[("first", i) for i in range(e)])[1:]
                    self.assertEqual(firsts, [[some[0]] for some in classes])

    def test_written_out(self):
        self.assertEqual(
            run(("begin", 13, 3), ("members", 0), ("members", 1), ("members", 2))[1:],
            [[4, 1, 5, 8, 12], [4, 2, 3, 10, 11], [4, 4, 6, 7, 9]],
        )
        self.assertEqual(run(("begin", 13, 3), ("first", 0), ("first", 1), ("first", 2))[1:], [[1], [2], [4]])

    def test_an_odd_number_in_each(self):
        self.assertEqual(
            run(("begin", 7, 2), ("members", 0), ("members", 1))[1:],
            [[3, 1, 2, 4], [3, 3, 5, 6]],
        )

    def test_one_in_each(self):
        self.assertEqual(
            run(("begin", 5, 4), *[("members", i) for i in range(5)])[1:],
            [[1, 1], [1, 2], [1, 4], [1, 3], [-2]],
        )

    def test_by_another_root(self):
        for root in (2, 6, 7, 11):
            for e in splits(13):
                with self.subTest(root=root, e=e):
                    given = run(("begin", 13, e), ("other", root), *[("members", i) for i in range(e)])[2:]
                    classes = [plain_members(root, 13, e, i) for i in range(e)]
                    self.assertEqual(given, [[len(some)] + some for some in classes])

    def test_another_root_numbers_the_first_anew(self):
        self.assertEqual(
            run(("begin", 7, 3), ("first", 1), ("first", 2), ("other", 5), ("first", 1), ("first", 2), ("first", 0)),
            [[0], [3], [2], [5], [2], [3], [1]],
        )

    def test_no_such_class(self):
        for p in LEAST_ROOTS:
            for e in splits(p):
                # p stands here because a class is not taken for what it leaves by p.
                for i in (e, e + 1, p, p + 1, GREATEST):
                    if i >= e:
                        with self.subTest(p=p, e=e, i=i):
                            self.assertEqual(run(("begin", p, e), ("members", i), ("first", i))[1:], [[-2], [-2]])

    def test_the_last_class_is_there(self):
        self.assertEqual(last(("begin", 17, 8), ("members", 7)), [2, 6, 11])
        self.assertEqual(last(("begin", 17, 8), ("first", 7)), [6])

    def test_asking_changes_nothing(self):
        asked = [("members", 1), ("first", 1), ("members", 9), ("first", 9), ("index", 0), ("class", 0)]
        given = run(("begin", 19, 3), *asked, *asked, ("power", 1), ("index", 3))[1:]
        self.assertEqual(given[:6], given[6:12])
        self.assertEqual(given[12:], [[2], [13]])


if __name__ == "__main__":
    unittest.main()
