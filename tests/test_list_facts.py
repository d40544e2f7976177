"""list_facts: the active facts with their numbers."""

import unittest

from tests.helper import LIST_FACTS, above, ask, date, find, last, retract, same


class ListFactsTest(unittest.TestCase):

    def test_no_facts(self):
        self.assertEqual(last(0, LIST_FACTS), [0, 0])
        self.assertEqual(last(12, LIST_FACTS), [0, 0])

    def test_each_kind_of_fact(self):
        self.assertEqual(last(2, above(1, 0), LIST_FACTS), [0, 1, 1, 2, 1, 0, 0])
        self.assertEqual(last(2, same(1, 0), LIST_FACTS), [0, 1, 1, 3, 1, 0, 0])
        self.assertEqual(last(2, find(1, 20, 30), LIST_FACTS), [0, 1, 1, 4, 1, 20, 30])
        self.assertEqual(last(2, date(1, 20, 30), LIST_FACTS), [0, 1, 1, 5, 1, 20, 30])

    def test_arguments_stand_as_they_were_handed_in(self):
        self.assertEqual(
            last(4, above(0, 3), same(2, 1), same(1, 2), LIST_FACTS),
            [0, 3, 1, 2, 0, 3, 0, 2, 3, 2, 1, 0, 3, 3, 1, 2, 0],
        )

    def test_the_years_of_the_fact_and_not_those_that_are_left(self):
        self.assertEqual(
            last(1, date(0, 0, 50), date(0, 20, 90), find(0, 10, 95), LIST_FACTS),
            [0, 3, 1, 5, 0, 0, 50, 2, 5, 0, 20, 90, 3, 4, 0, 10, 95],
        )

    def test_years_below_zero(self):
        self.assertEqual(
            last(1, date(0, -5000, -1), find(0, -4000, 2100), LIST_FACTS),
            [0, 2, 1, 5, 0, -5000, -1, 2, 4, 0, -4000, 2100],
        )

    def test_the_order_of_the_ids(self):
        facts = (date(1, 5, 6), above(1, 0), find(0, 1, 2), same(2, 1), date(2, 4, 6))
        self.assertEqual(last(3, *facts, LIST_FACTS)[2::5], [1, 2, 3, 4, 5])
        self.assertEqual(last(3, *facts, LIST_FACTS)[3::5], [5, 2, 4, 3, 5])

    def test_retracted_facts_are_left_out(self):
        facts = (above(1, 0), date(0, 1, 2), find(1, 1, 3))
        self.assertEqual(
            ask(2, *facts, retract(2), LIST_FACTS, above(1, 0), retract(1), LIST_FACTS, retract(3), retract(4),
                LIST_FACTS)[4:],
            [[0, 2, 1, 2, 1, 0, 0, 3, 4, 1, 1, 3], [4], [0], [0, 2, 3, 4, 1, 1, 3, 4, 2, 1, 0, 0], [0], [0], [0, 0]],
        )

    def test_refused_facts_are_left_out(self):
        self.assertEqual(
            ask(2, above(1, 0), above(0, 1), above(2, 0), date(0, 2, 1), same(1, 0), LIST_FACTS)[-1],
            [0, 1, 1, 2, 1, 0, 0],
        )

    def test_forty_facts(self):
        facts = [find(fact_id % 12, -fact_id, fact_id) for fact_id in range(1, 41)]
        due = [number for fact_id in range(1, 41) for number in (fact_id, 4, fact_id % 12, -fact_id, fact_id)]
        self.assertEqual(last(12, *facts, LIST_FACTS), [0, 40] + due)


if __name__ == "__main__":
    unittest.main()
