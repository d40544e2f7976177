"""The form of what is handed in and of what is given back."""

import unittest

from strataproofs.excavation import answers
from tests.helper import UNIT, above, ask, date, find, is_earlier, last, retract, same, year_range

EVERY_CALL = [
    1, 1, 1,
    2, 1, 0,
    3, 1, 2,
    4, 0, -30, 40,
    5, 2, -10, 90,
    7, 0, 2,
    8, 0,
    9, 3,
    10, 2,
    11, 2,
    12,
    13,
    14,
    15, 0, 2,
    16, 0, 2,
    17,
    18,
    6, 1,
    7, 0, 2,
    17,
]
EVERY_ANSWER = [
    1, 0, 1, 1, 1, 2,
    1, 1,
    1, 2,
    1, 3,
    1, 4,
    2, 0, 1,
    3, 0, -30, 90,
    3, 0, -30, 40,
    2, 0, 1,
    3, 0, 1, 1,
    4, 0, 1, 0, 1,
    4, 0, 2, 0, 1,
    2, 0, 1,
    2, 0, 2,
    4, 0, 2, 1, 2,
    1, -4,
    22, 0, 4, 1, 2, 1, 0, 0, 2, 3, 1, 2, 0, 3, 4, 0, -30, 40, 4, 5, 2, -10, 90,
    1, 0,
    2, 0, 2,
    4, 0, 0, 1, 0,
]


class FormTest(unittest.TestCase):

    def test_each_call_answers_how_many_numbers_and_then_these(self):
        self.assertEqual(answers(EVERY_CALL), EVERY_ANSWER)

    def test_refusals_are_their_code_alone(self):
        self.assertEqual(
            answers([8, 0, 8, 12, 6, 1, 1, 5, 0, 1, 2, 6, 1, 6, 1, 5, 0, 1, 2, 9, 2]),
            [1, -3, 1, -1, 1, -3, 1, 0, 1, 1, 1, 0, 1, -8, 1, 2, 1, -4],
        )

    def test_a_contradiction_tells_how_many_ids_and_the_ids(self):
        self.assertEqual(
            answers([1, 1, 1, 2, 1, 0, 2, 2, 1, 2, 0, 2]),
            [1, 0, 1, 1, 1, 2, 1, 1, 1, 2, 4, -4, 2, 1, 2],
        )

    def test_what_is_handed_in_stays_as_it_was(self):
        calls = list(EVERY_CALL)
        answers(calls)
        self.assertEqual(calls, EVERY_CALL)

    def test_a_tuple_that_cannot_be_changed_is_answered_alike(self):
        self.assertEqual(answers(tuple(EVERY_CALL)), EVERY_ANSWER)

    def test_nothing_is_kept_from_one_time_to_the_next(self):
        first = answers(EVERY_CALL)
        first.append(7)
        self.assertEqual(answers(EVERY_CALL), EVERY_ANSWER)
        self.assertEqual(answers([8, 0]), [1, -3])

    def test_answers_are_a_list_of_ints(self):
        given = answers(EVERY_CALL)
        self.assertIs(type(given), list)
        self.assertEqual({type(number) for number in given}, {int})

    def test_refused_questions_are_their_code_alone(self):
        self.assertEqual(
            answers([17, 10, 0, 11, 12, 15, 0, 0, 16, 0, 12, 1, 16, 0, 0, 17, 1, 16, 0, 1]),
            [1, -4, 1, -3, 1, -1, 1, -3, 1, -1, 1, 0, 1, -4, 1, -4, 1, 1, 1, -4],
        )

    def test_empty_lists_have_their_counts(self):
        self.assertEqual(answers([12, 13, 18, 14]), [2, 0, 0, 2, 0, 0, 2, 0, 0, 2, 0, 1])

    def test_a_single_call(self):
        self.assertEqual(answers([1]), [1, 0])

    def test_sixty_calls(self):
        self.assertEqual(answers([1] * 60), sum([[1, unit] for unit in range(12)], []) + [1, -9] * 48)

    def test_calls_before_and_between_units(self):
        self.assertEqual(
            ask(0, year_range(0), UNIT, year_range(0), above(0, 1), UNIT, above(0, 1), is_earlier(1, 0)),
            [[-3], [0], [0, -5000, 2100], [-3], [1], [1], [0, 1]],
        )


class NumberTest(unittest.TestCase):

    def test_units_are_numbered_from_zero(self):
        self.assertEqual(ask(0, *[UNIT] * 12), [[unit] for unit in range(12)])

    def test_fact_ids_are_numbered_from_one_over_all_kinds(self):
        self.assertEqual(
            ask(2, date(0, 1, 2), find(0, 1, 2), above(1, 0), date(1, 1, 9), retract(2), same(0, 1), find(1, 1, 1)),
            [[1], [2], [3], [4], [0], [-4, 1, 3], [5]],
        )

    def test_ids_of_retracted_facts_are_not_used_again(self):
        self.assertEqual(
            ask(2, above(1, 0), retract(1), above(1, 0), retract(2), above(0, 1), retract(1), retract(3)),
            [[1], [0], [2], [0], [3], [-8], [0]],
        )

    def test_the_same_fact_is_recorded_again(self):
        self.assertEqual(
            ask(2, above(1, 0), above(1, 0), retract(1), is_earlier(0, 1), retract(2), is_earlier(0, 1)),
            [[1], [2], [0], [0, 1], [0], [0, 2]],
        )

    def test_years_below_zero_are_answered(self):
        self.assertEqual(last(1, date(0, -4000, -3000), year_range(0)), [0, -4000, -3000])


if __name__ == "__main__":
    unittest.main()
