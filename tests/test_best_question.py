"""best_question: the pair that leaves the fewest undetermined pairs at worst."""

import unittest

from tests.helper import (
    BEST_QUESTION, COUNT_SEQUENCES, HARRIS_MATRIX, LIST_FACTS, above, ask, date, explain, find, is_earlier, last,
    position_range, retract, same,
)


class PairTest(unittest.TestCase):

    def test_two_units(self):
        self.assertEqual(last(2, BEST_QUESTION), [0, 0, 1, 0])

    def test_units_without_facts(self):
        # Each pair leaves all others; the first one is told.
        for units in range(2, 13):
            with self.subTest(units):
                self.assertEqual(last(units, BEST_QUESTION), [0, 0, 1, units * (units - 1) // 2 - 1])

    def test_the_larger_of_the_two_numbers_counts(self):
        # 0 before 2 settles 0 and 2, 0 and 3; 2 before 0 settles 0 and 2, 1 and 2.
        facts = (above(1, 0), above(3, 2))
        self.assertEqual(last(4, *facts, BEST_QUESTION), [0, 0, 2, 2])

    def test_a_unit_beside_a_chain(self):
        # The middle of the chain halves the rest.
        facts = (above(1, 0), above(2, 1))
        self.assertEqual(last(4, *facts, BEST_QUESTION), [0, 1, 3, 1])
        facts = [above(unit + 1, unit) for unit in range(10)]
        self.assertEqual(last(12, *facts, BEST_QUESTION), [0, 5, 11, 5])

    def test_a_pair_that_is_certain_already_is_not_settled_again(self):
        # 0 before 2 settles this pair alone: 0 is earlier than 3 already.
        facts = (above(1, 0), above(3, 2), above(3, 0))
        self.assertEqual(last(4, *facts, BEST_QUESTION), [0, 0, 2, 2])

    def test_ties_by_the_smaller_first_number(self):
        facts = (above(1, 2), above(2, 3))
        self.assertEqual(last(4, *facts, BEST_QUESTION), [0, 0, 2, 1])
        facts = (above(3, 2), above(1, 0))
        self.assertEqual(last(5, *facts, BEST_QUESTION), [0, 0, 2, 6])

    def test_ties_by_the_smaller_second_number(self):
        # Unit 0 stands beside the chain 1, 2, 3, 4.
        facts = (above(2, 1), above(3, 2), above(4, 3))
        self.assertEqual(last(5, *facts, BEST_QUESTION), [0, 0, 2, 2])

    def test_the_smaller_number_stands_first(self):
        self.assertEqual(last(4, above(0, 1), above(1, 2), BEST_QUESTION), [0, 1, 3, 1])
        self.assertEqual(last(4, above(3, 2), above(2, 1), BEST_QUESTION), [0, 0, 2, 1])

    def test_years_alone(self):
        facts = (date(1, 0, 10), date(3, 11, 20), find(2, 21, 22))
        self.assertEqual(last(4, *facts, BEST_QUESTION), [0, 0, 3, 1])

    def test_representatives_alone_are_named(self):
        facts = (same(3, 1), same(4, 3), above(2, 4), above(5, 2))
        self.assertEqual(last(6, *facts, BEST_QUESTION), [0, 0, 2, 1])
        self.assertEqual(last(4, same(0, 1), same(3, 2), BEST_QUESTION), [0, 0, 2, 0])


class NoneTest(unittest.TestCase):

    def test_fewer_than_two_strata(self):
        self.assertEqual(last(0, BEST_QUESTION), [-4])
        self.assertEqual(last(1, BEST_QUESTION), [-4])
        self.assertEqual(last(3, same(0, 1), same(1, 2), BEST_QUESTION), [-4])

    def test_a_full_order(self):
        self.assertEqual(last(2, above(1, 0), BEST_QUESTION), [-4])
        self.assertEqual(last(3, above(0, 2), date(0, 0, 5), find(1, 6, 7), BEST_QUESTION), [-4])

    def test_an_order_that_is_no_more_full(self):
        self.assertEqual(
            ask(3, above(1, 0), above(2, 1), BEST_QUESTION, retract(2), BEST_QUESTION)[2:], [[-4], [0], [0, 0, 2, 1]],
        )


class NothingAcceptedTest(unittest.TestCase):

    def test_all_answers_are_the_same_behind_it(self):
        facts = (above(1, 0), date(2, 0, 10), find(3, 11, 12), same(4, 1))
        questions = [LIST_FACTS, HARRIS_MATRIX, COUNT_SEQUENCES, is_earlier(0, 2), explain(2, 3), position_range(1)]
        due = ask(5, *facts, *questions, above(2, 0))[4:]
        given = ask(5, *facts, BEST_QUESTION, BEST_QUESTION, *questions, above(2, 0))[4:]
        self.assertEqual(given, [given[0], given[0]] + due)
        self.assertEqual(due[-1], [5])

    def test_the_next_fact_has_the_next_id(self):
        self.assertEqual(ask(3, BEST_QUESTION, above(0, 1), BEST_QUESTION, above(1, 2), BEST_QUESTION, LIST_FACTS), [
            [0, 0, 1, 2], [1], [0, 0, 2, 1], [2], [-4], [0, 2, 1, 2, 0, 1, 0, 2, 2, 1, 2, 0],
        ])

    def test_forty_facts_leave_room_for_the_question(self):
        facts = [above(1, 0)] * 40
        self.assertEqual(ask(3, *facts, BEST_QUESTION, above(2, 0))[40:], [[0, 0, 2, 1], [-9]])


if __name__ == "__main__":
    unittest.main()
