"""behind, row and table."""

import unittest

from tests.lines import (
    EACH, GREATEST, LEAST_ROOTS, chunks, last, plain_roots, plain_table, rows_of, run, splits,
)


def table_of(p, e, *between):
    """The program's table, cut into its rows, after what is called between."""
    return rows_of(last(("begin", p, e), *between, ("table",)))


def squares_for_three(p):
    """L of 4p = LL + 27MM, with the sign by which it leaves 1 by 3."""
    size = next(n for n in range(1, 2 * p) for m in range(1, p) if n * n + 27 * m * m == 4 * p)
    return size if size % 3 == 1 else -size


def squares_for_four(p):
    """s of p = ss + 4tt, with the sign by which it leaves 1 by 4."""
    size = next(n for n in range(1, p) for t in range(1, p) if n * n + 4 * t * t == p)
    return size if size % 4 == 1 else -size


class Behind(unittest.TestCase):
    def test_every_pair_of_classes(self):
        for p, e in EACH:
            rows = plain_table(LEAST_ROOTS[p], p, e)
            for some in chunks([(i, j) for i in range(e) for j in range(e)]):
                with self.subTest(p=p, e=e, some=some[0]):
                    given = run(("begin", p, e), *[("behind", i, j) for i, j in some])[1:]
                    self.assertEqual(given, [[rows[i][j]] for i, j in some])

    def test_written_out(self):
        # Class 0 is 1, 2, 4; behind 1 is 2, behind 2 and 4 are 3 and 5, of class 1.
        self.assertEqual(
            run(("begin", 7, 2), ("behind", 0, 0), ("behind", 0, 1), ("behind", 1, 0), ("behind", 1, 1))[1:],
            [[1], [2], [1], [1]],
        )

    def test_nothing_is_behind_the_last_nor_ahead_of_the_first(self):
        self.assertEqual(
            run(("begin", 3, 2), ("behind", 0, 0), ("behind", 0, 1), ("behind", 1, 0), ("behind", 1, 1))[1:],
            [[0], [1], [0], [0]],
        )

    def test_one_in_each(self):
        # The classes 0, 1, 3, 2 hold 1, 2, 3, 4.
        self.assertEqual(
            run(("begin", 5, 4), ("behind", 0, 1), ("behind", 1, 3), ("behind", 3, 2), ("behind", 2, 0))[1:],
            [[1], [1], [1], [0]],
        )

    def test_no_such_class(self):
        for p, e in EACH:
            for number in (e, e + 1, p + 7, GREATEST):
                with self.subTest(p=p, e=e, number=number):
                    self.assertEqual(
                        run(("begin", p, e), ("behind", number, 0), ("behind", 0, number), ("behind", e - 1, number),
                            ("behind", number, number), ("row", number))[1:],
                        [[-2]] * 5,
                    )

    def test_a_class_does_not_stand_for_what_it_leaves(self):
        self.assertEqual(run(("begin", 7, 2), ("behind", 7, 8), ("row", 7), ("row", 14))[1:], [[-2]] * 3)


class RowAndTable(unittest.TestCase):
    def test_every_row_and_table(self):
        for p, e in EACH:
            with self.subTest(p=p, e=e):
                rows = plain_table(LEAST_ROOTS[p], p, e)
                given = run(("begin", p, e), *[("row", i) for i in range(e)], ("table",))[1:]
                self.assertEqual(given[:e], [[e] + row for row in rows])
                self.assertEqual(given[e], [e * e] + sum(rows, []))

    def test_written_out(self):
        self.assertEqual(
            run(("begin", 13, 4), ("row", 0), ("row", 1), ("row", 2), ("row", 3), ("table",))[1:],
            [
                [4, 0, 1, 2, 0],
                [4, 1, 1, 0, 1],
                [4, 0, 1, 0, 1],
                [4, 1, 0, 1, 1],
                [16, 0, 1, 2, 0, 1, 1, 0, 1, 0, 1, 0, 1, 1, 0, 1, 1],
            ],
        )

    def test_the_prime_3(self):
        self.assertEqual(
            run(("begin", 3, 2), ("row", 0), ("row", 1), ("row", 2), ("table",))[1:],
            [[2, 0, 1], [2, 0, 0], [-2], [4, 0, 1, 0, 0]],
        )

    def test_the_prime_199(self):
        # The squares by a prime 4k + 3: k, k + 1, k, k.
        self.assertEqual(run(("begin", 199, 2), ("table",), ("row", 0))[1:], [[4, 49, 50, 49, 49], [2, 49, 50]])

    def test_one_in_each(self):
        self.assertEqual(
            last(("begin", 5, 4), ("table",)), [16, 0, 1, 0, 0, 0, 0, 0, 1, 0, 0, 0, 0, 0, 0, 1, 0],
        )

    def test_after_split(self):
        self.assertEqual(
            run(("begin", 13, 4), ("split", 3), ("table",), ("row", 2), ("behind", 2, 0), ("row", 3), ("behind", 0, 3)),
            [[0], [4], [9, 0, 1, 2, 1, 2, 1, 2, 1, 1], [3, 2, 1, 1], [2], [-2], [-2]],
        )
        for p in LEAST_ROOTS:
            for e in splits(p):
                with self.subTest(p=p, e=e):
                    self.assertEqual(table_of(p, 2, ("split", e)), plain_table(LEAST_ROOTS[p], p, e))

    def test_after_other(self):
        self.assertEqual(
            run(("begin", 13, 4), ("other", 7), ("table",), ("row", 1), ("behind", 0, 3)),
            [[0], [11], [16, 0, 0, 2, 1, 1, 1, 1, 0, 0, 1, 0, 1, 1, 1, 0, 1], [4, 1, 1, 1, 0], [1]],
        )

    def test_after_a_second_begin(self):
        self.assertEqual(
            run(("begin", 13, 4), ("other", 7), ("begin", 7, 2), ("table",), ("row", 1), ("behind", 0, 1), ("row", 2)),
            [[0], [11], [0], [4, 1, 2, 1, 1], [2, 1, 1], [2], [-2]],
        )

    def test_after_a_refused_begin_split_or_other(self):
        for call in (("begin", 9, 2), ("begin", 13, 5), ("split", 5), ("split", 0), ("other", 13), ("other", 3)):
            with self.subTest(call=call):
                self.assertEqual(table_of(13, 4, ("other", 7), call), plain_table(7, 13, 4))


class WhatHolds(unittest.TestCase):
    def test_the_table_is_its_own_mirror(self):
        for p, e in EACH:
            with self.subTest(p=p, e=e):
                rows = table_of(p, e)
                opposites = [some[0] for some in run(("begin", p, e), *[("opposite", i) for i in range(e)])[1:]]
                for i in range(e):
                    for j in range(e):
                        self.assertEqual(rows[i][j], rows[opposites[j]][opposites[i]])
                        self.assertEqual(rows[i][j], rows[-i % e][(j - i) % e])

    def test_with_an_even_number_in_each_the_first_mirror_is_plain(self):
        for p, e in EACH:
            if (p - 1) // e % 2 == 0:
                with self.subTest(p=p, e=e):
                    rows = table_of(p, e)
                    self.assertEqual(rows, [list(column) for column in zip(*rows)])

    def test_each_row_comes_to_a_whole_class_one_to_one_less(self):
        for p, e in EACH:
            with self.subTest(p=p, e=e):
                each = (p - 1) // e
                expected = [each] * e
                # The one less is of the class of p - 1, which has nothing behind it.
                expected[last(("begin", p, e), ("class", p - 1))[0]] -= 1
                self.assertEqual([sum(row) for row in table_of(p, e)], expected)

    def test_each_column_comes_to_a_whole_class_the_first_to_one_less(self):
        for p, e in EACH:
            with self.subTest(p=p, e=e):
                each = (p - 1) // e
                columns = [sum(column) for column in zip(*table_of(p, e))]
                self.assertEqual(columns, [each - 1] + [each] * (e - 1))

    def test_three_classes_say_how_four_times_the_prime_is_made(self):
        for p, e in EACH:
            if e == 3:
                with self.subTest(p=p):
                    often = last(("begin", p, 3), ("behind", 0, 0))[0]
                    self.assertEqual(9 * often, p - 8 + squares_for_three(p))

    def test_four_classes_say_how_the_prime_is_made(self):
        for p, e in EACH:
            if e == 4:
                with self.subTest(p=p):
                    often = last(("begin", p, 4), ("behind", 0, 0))[0]
                    s = squares_for_four(p)
                    if (p - 1) // 4 % 2 == 0:
                        self.assertEqual(16 * often, p - 11 - 6 * s)
                    else:
                        self.assertEqual(16 * often, p - 7 + 2 * s)

    def test_another_root_renumbers_the_classes_alone(self):
        for p, e in EACH:
            before = table_of(p, e)
            for g in plain_roots(p)[:8]:
                with self.subTest(p=p, e=e, g=g):
                    given = run(("begin", p, e), ("other", g), ("table",))
                    index = given[1][0]
                    expected = [[before[index * i % e][index * j % e] for j in range(e)] for i in range(e)]
                    self.assertEqual(rows_of(given[2]), expected)

    def test_another_root_and_back(self):
        for p, e in EACH:
            with self.subTest(p=p, e=e):
                greatest = plain_roots(p)[-1]
                self.assertEqual(table_of(p, e, ("other", greatest), ("other", LEAST_ROOTS[p])), table_of(p, e))


if __name__ == "__main__":
    unittest.main()
