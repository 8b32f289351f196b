"""How calls and answers are laid in their lists, and what an object keeps."""

import unittest

from powerclasses.classes import answers
from tests.lines import GREATEST, parts, run

# How many numbers each of the twenty calls brings.
COUNTS = [2, 1, 1, 0, 0, 1, 1, 1, 1, 1, 2, 1, 0, 2, 1, 1, 1, 2, 1, 0]

# Every call, some of them refused, each behind the one before, with what is answered.
LAID = [
    ([0, 7, 3], [1, 0]),
    ([3], [1, 3]),
    ([4], [3, 2, 3, 5]),
    ([5, 6], [1, 3]),
    ([6, 6], [1, 0]),
    ([7, 4], [1, 4]),
    ([8, 0], [3, 2, 1, 6]),
    ([9, 1], [1, 3]),
    ([10, 1, 2], [1, 1]),
    ([11, 1], [4, 3, 0, 1, 1]),
    ([12], [10, 9, 0, 0, 1, 0, 1, 1, 1, 1, 0]),
    ([13, 1, 6], [1, 1]),
    ([19], [3, 7, 3, 3]),
    ([1, 2], [1, 3]),
    ([2, 5], [1, 5]),
    ([19], [3, 7, 2, 5]),
    ([8, 1], [4, 3, 3, 5, 6]),
    ([14, 1], [1, 1]),
    ([15, 1], [1, 1]),
    ([16, 1], [1, 14]),
    ([17, 1, 3], [1, 0]),
    ([18, 1], [1, 0]),
    ([12], [5, 4, 1, 2, 1, 1]),
    ([8, 2], [1, -2]),
    ([10, 2, 0], [1, -2]),
    ([11, 2], [1, -2]),
    ([13, 2, 7], [1, -2]),
    ([13, 1, 7], [1, -22]),
    ([17, 0, 0], [1, -22]),
    ([5, 7], [1, -22]),
    ([1, 4], [1, -33]),
    ([0, 9, 2], [1, -22]),
    ([0, 13, 4], [1, 0]),
    ([9, 3], [1, 7]),
    ([19], [3, 13, 4, 2]),
]
EVERY = [number for calls, given in LAID for number in calls]
EVERY_ANSWERED = [number for calls, given in LAID for number in given]


class Guarded(list):
    """A list that can't be changed."""

    def refuse(self, *told, **named):
        raise RuntimeError("the list was to be changed")

    append = extend = insert = pop = remove = clear = sort = reverse = refuse
    __setitem__ = __delitem__ = __iadd__ = __imul__ = refuse


class Layout(unittest.TestCase):
    def test_every_call(self):
        self.assertEqual({calls[0] for calls, given in LAID}, set(range(20)))
        self.assertEqual(answers(EVERY), EVERY_ANSWERED)

    def test_every_call_one_more_each_time(self):
        for count in range(1, len(LAID) + 1):
            with self.subTest(count=count):
                calls = [number for some, given in LAID[:count] for number in some]
                self.assertEqual(answers(calls), [number for some, given in LAID[:count] for number in given])

    def test_one_number_answered(self):
        self.assertEqual(answers([0, 3, 2]), [1, 0])

    def test_one_refusal(self):
        self.assertEqual(answers([3]), [1, -11])

    def test_a_list_answered_has_its_own_count_too(self):
        self.assertEqual(answers([0, 5, 2, 4, 8, 1]), [1, 0, 3, 2, 2, 3, 3, 2, 2, 3])

    def test_sixty_calls(self):
        given = answers([0, 199, 2] + [7, GREATEST] * 59)
        self.assertEqual(given, [1, 0] + [1, pow(3, GREATEST, 199)] * 59)

    def test_sixty_calls_with_all_their_numbers(self):
        self.assertEqual(answers([0, 199, 6] * 60), [1, 0] * 60)

    def test_sixty_calls_of_three_numbers(self):
        self.assertEqual(answers([0, 199, 6] + [17, 5, 198] * 59), [1, 0] + [1, 2] * 59)
        self.assertEqual(answers([0, 199, 2] + [13, 1, GREATEST] * 59), [1, 0] + [1, 49] * 59)
        self.assertEqual(answers([0, 199, 2] + [10, GREATEST, 0] * 59), [1, 0] + [1, -2] * 59)

    def test_sixty_long_answers(self):
        given = parts(answers([0, 193, 8] + [12] * 59))
        self.assertEqual(len(given), 60)
        self.assertEqual({len(some) for some in given[1:]}, {65})
        self.assertEqual(given[1:], [given[1]] * 59)

    def test_answers_are_plain_whole_numbers(self):
        given = answers(EVERY)
        self.assertIs(type(given), list)
        self.assertEqual({type(number) for number in given}, {int})


class NothingKept(unittest.TestCase):
    def test_the_list_stays_as_it_was(self):
        calls = list(EVERY)
        answers(calls)
        self.assertEqual(calls, EVERY)

    def test_the_list_is_not_changed_for_a_while_either(self):
        self.assertEqual(answers(Guarded(EVERY)), EVERY_ANSWERED)

    def test_a_second_time_gives_the_same(self):
        calls = list(EVERY)
        first = answers(calls)
        first_copy = list(first)
        second = answers(calls)
        self.assertEqual(second, first_copy)
        self.assertIsNot(second, first)

    def test_what_was_given_back_may_be_changed(self):
        answers(EVERY).clear()
        self.assertEqual(answers(EVERY), EVERY_ANSWERED)

    def test_an_object_is_new_at_the_beginning(self):
        answers([0, 7, 3, 2, 5])
        self.assertEqual(answers([3, 5, 3]), [1, -11, 1, -11])
        self.assertEqual(answers([0, 7, 3, 5, 3]), [1, 0, 1, 1])


class BeforeBegin(unittest.TestCase):
    def test_all_else_is_refused(self):
        for call in range(1, 20):
            for number in (0, 1, 5, GREATEST):
                with self.subTest(call=call, number=number):
                    self.assertEqual(answers([call] + [number] * COUNTS[call]), [1, -11])

    def test_all_else_one_behind_another(self):
        calls = []
        for call in range(1, 20):
            calls += [call] + [0] * COUNTS[call]
        self.assertEqual(answers(calls + [0, 7, 2]), [1, -11] * 19 + [1, 0])

    def test_a_refused_begin_is_none(self):
        self.assertEqual(answers([0, 9, 2, 3]), [1, -22, 1, -11])
        self.assertEqual(answers([0, 7, 4, 8, 0]), [1, -33, 1, -11])

    def test_the_refusal_before_begin_goes_ahead_of_others(self):
        self.assertEqual(
            run(("split", 0), ("other", 0), ("index", 0), ("class", 0), ("members", 9), ("first", 9), ("behind", 9, 9),
                ("row", 9), ("differs", 9, 0), ("even", 9), ("evenzero", 9), ("sum", 9), ("times", 9, 0),
                ("opposite", 9)),
            [[-11]] * 14,
        )

    def test_a_refused_call_leaves_nothing_for_the_begin(self):
        self.assertEqual(
            run(("split", 2), ("other", 5), ("begin", 7, 3), ("members", 0), ("index", 3)),
            [[-11], [-11], [0], [2, 1, 6], [1]],
        )


if __name__ == "__main__":
    unittest.main()
