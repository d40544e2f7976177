"""Contradictions of each kind of fact, and their preferred explanations."""

import unittest

from tests.helper import above, ask, date, find, is_earlier, last, retract, same, year_range


class AboveTest(unittest.TestCase):

    def test_the_other_way_round(self):
        self.assertEqual(last(2, above(1, 0), above(0, 1)), [-4, 1, 1])

    def test_units_of_one_stratum(self):
        self.assertEqual(last(2, same(0, 1), above(0, 1)), [-4, 1, 1])
        self.assertEqual(last(2, same(0, 1), above(1, 0)), [-4, 1, 1])

    def test_a_chain_is_told_from_upper_to_lower(self):
        facts = (above(2, 1), above(3, 2), above(1, 0))
        self.assertEqual(last(4, *facts, above(0, 3)), [-4, 3, 3, 1, 2])

    def test_steps_over_same_facts_in_either_direction(self):
        self.assertEqual(last(4, same(1, 0), above(2, 1), same(3, 2), above(0, 3)), [-4, 3, 1, 2, 3])
        self.assertEqual(last(4, same(0, 1), above(2, 1), same(2, 3), above(0, 3)), [-4, 3, 1, 2, 3])

    def test_only_the_years_stand_against_it(self):
        self.assertEqual(last(2, date(1, 20, 30), date(0, 0, 19), above(0, 1)), [-4, 2, 2, 1])
        self.assertEqual(last(2, find(1, 20, 30), date(0, 0, 19), above(0, 1)), [-4, 2, 2, 1])

    def test_years_that_meet_do_not_stand_against_it(self):
        self.assertEqual(last(2, date(1, 20, 30), date(0, 0, 20), above(0, 1)), [3])
        self.assertEqual(last(2, find(1, 20, 30), date(0, 0, 20), above(0, 1)), [3])

    def test_the_last_year_of_a_find_makes_no_step(self):
        self.assertEqual(last(2, find(0, 0, 10), find(1, 20, 30), above(0, 1)), [3])
        self.assertEqual(last(2, find(0, 0, 10), date(1, 20, 30), above(0, 1)), [3])

    def test_steps_before_and_behind_a_step_over_years(self):
        facts = (find(2, 50, 60), above(1, 0), date(1, 10, 49), above(3, 2))
        self.assertEqual(last(4, *facts, above(0, 3)), [-4, 4, 2, 3, 1, 4])
        self.assertEqual(last(4, *facts, above(0, 2)), [-4, 3, 2, 3, 1])
        self.assertEqual(last(4, *facts, above(1, 3)), [-4, 3, 3, 1, 4])
        self.assertEqual(last(4, *facts, above(1, 2)), [-4, 2, 3, 1])

    def test_two_steps_over_years_are_one(self):
        facts = (date(0, 0, 10), date(1, 20, 30), date(2, 40, 50))
        self.assertEqual(last(3, *facts, above(0, 2)), [-4, 2, 1, 3])

    def test_no_chain(self):
        facts = (above(1, 0), above(2, 0), date(1, 0, 50), date(2, 0, 50))
        self.assertEqual(ask(4, *facts, above(1, 2), above(3, 0))[4:], [[5], [6]])


class SameTest(unittest.TestCase):

    def test_above_facts_of_either_direction(self):
        self.assertEqual(last(2, above(1, 0), same(0, 1)), [-4, 1, 1])
        self.assertEqual(last(2, above(1, 0), same(1, 0)), [-4, 1, 1])

    def test_the_chain_is_told_from_the_earlier_unit(self):
        facts = (above(2, 1), above(1, 0))
        self.assertEqual(last(3, *facts, same(0, 2)), [-4, 2, 2, 1])
        self.assertEqual(last(3, *facts, same(2, 0)), [-4, 2, 2, 1])

    def test_years_alone(self):
        facts = (date(1, 20, 30), date(0, 0, 19))
        self.assertEqual(last(2, *facts, same(0, 1)), [-4, 2, 2, 1])
        self.assertEqual(last(2, *facts, same(1, 0)), [-4, 2, 2, 1])

    def test_years_that_meet(self):
        self.assertEqual(last(2, date(1, 20, 30), date(0, 0, 20), same(0, 1), year_range(1)), [0, 20, 20])

    def test_units_of_one_stratum_are_no_contradiction(self):
        self.assertEqual(ask(3, same(0, 1), same(1, 2), same(0, 2), same(2, 0), same(1, 0)), [[1], [2], [3], [4], [5]])

    def test_a_strict_step_in_the_middle(self):
        facts = (same(3, 2), above(2, 1), same(0, 1))
        self.assertEqual(last(4, *facts, same(3, 0)), [-4, 3, 3, 2, 1])

    def test_unrelated_units(self):
        self.assertEqual(last(3, above(1, 0), above(2, 0), same(1, 2)), [3])


class FindTest(unittest.TestCase):

    def test_the_date_of_the_unit_itself(self):
        self.assertEqual(last(1, date(0, 10, 20), find(0, 21, 30)), [-4, 1, 1])
        self.assertEqual(last(1, date(0, 10, 20), find(0, 20, 30)), [2])
        self.assertEqual(last(1, date(0, 10, 20), find(0, -5000, 9)), [2])

    def test_the_date_of_a_later_unit(self):
        facts = (date(2, 10, 20), above(1, 0), above(2, 1))
        self.assertEqual(last(3, *facts, find(0, 21, 21)), [-4, 3, 2, 3, 1])
        self.assertEqual(last(3, *facts, find(0, 20, 21)), [4])

    def test_the_date_of_the_same_stratum(self):
        self.assertEqual(last(2, same(0, 1), date(1, 10, 20), find(0, 21, 30)), [-4, 2, 1, 2])
        self.assertEqual(last(2, same(1, 0), date(1, 10, 20), find(0, 21, 30)), [-4, 2, 1, 2])

    def test_the_date_of_an_earlier_unit_is_no_contradiction(self):
        self.assertEqual(last(2, date(0, 10, 20), above(1, 0), find(1, 21, 30)), [3])

    def test_the_years_of_other_finds_are_no_contradiction(self):
        self.assertEqual(ask(1, find(0, 0, 5), find(0, 10, 20), find(0, -9, -8)), [[1], [2], [3]])

    def test_a_step_over_years_on_the_way(self):
        facts = (above(1, 0), date(1, 0, 30), above(2, 1), find(2, 31, 32), date(3, 0, 40), above(3, 2))
        self.assertEqual(last(4, *facts, find(0, 41, 50)), [-4, 2, 1, 2])
        self.assertEqual(last(4, *facts, find(2, 41, 50)), [-4, 2, 6, 5])


class DateTest(unittest.TestCase):

    def test_dates_of_the_unit_itself(self):
        self.assertEqual(last(1, date(0, 10, 20), date(0, 21, 30)), [-4, 1, 1])
        self.assertEqual(last(1, date(0, 10, 20), date(0, 0, 9)), [-4, 1, 1])
        self.assertEqual(last(1, date(0, 10, 20), date(0, 20, 30)), [2])
        self.assertEqual(last(1, date(0, 10, 20), date(0, 0, 10)), [2])

    def test_a_find_of_the_unit_itself(self):
        self.assertEqual(last(1, find(0, 10, 20), date(0, 0, 9)), [-4, 1, 1])
        self.assertEqual(last(1, find(0, 10, 20), date(0, 0, 10)), [2])
        self.assertEqual(last(1, find(0, 10, 20), date(0, 21, 30)), [2])

    def test_a_later_unit_is_dated_before(self):
        facts = (date(2, 10, 20), above(1, 0), same(2, 1))
        self.assertEqual(last(3, *facts, date(0, 21, 30)), [-4, 3, 2, 3, 1])
        self.assertEqual(last(3, *facts, date(0, 0, 9)), [4])

    def test_an_earlier_unit_is_dated_behind(self):
        facts = (above(2, 1), same(0, 1), date(0, 10, 20))
        self.assertEqual(last(3, *facts, date(2, 0, 9)), [-4, 3, 3, 2, 1])
        self.assertEqual(last(3, *facts, date(2, 21, 30)), [4])

    def test_an_earlier_unit_holds_a_later_find(self):
        facts = (above(2, 1), above(1, 0), find(0, 10, 20))
        self.assertEqual(last(3, *facts, date(2, 0, 9)), [-4, 3, 3, 2, 1])

    def test_the_end_of_the_list_that_the_kind_of_contradiction_asks_for(self):
        facts = (above(1, 0), date(1, 0, 10), above(3, 2), find(2, 50, 60))
        self.assertEqual(last(4, *facts, date(0, 11, 20)), [-4, 2, 1, 2])
        self.assertEqual(last(4, *facts, date(3, 11, 49)), [-4, 2, 4, 3])

    def test_both_sides_at_once_take_the_shorter(self):
        early = (above(1, 0), above(2, 1), date(2, 0, 30))
        late = (date(3, 20, 40), above(0, 3))
        self.assertEqual(last(4, *early, *late, date(0, 10, 15)), [-4, 2, 4, 5])
        self.assertEqual(last(4, *early, *late, date(0, 31, 35)), [-4, 3, 1, 2, 3])

    def test_one_fact_that_both_ends_of_the_years_meet(self):
        self.assertEqual(last(1, date(0, 5, 5), find(0, 3, 3), date(0, 5, 9), date(0, 6, 9)), [-4, 1, 1])
        self.assertEqual(last(1, find(0, 3, 3), date(0, 5, 5), date(0, 1, 9), date(0, 1, 4)), [-4, 1, 2])
        self.assertEqual(last(1, find(0, 3, 3), date(0, 5, 5), date(0, 1, 9), date(0, 1, 2)), [-4, 1, 1])


class PreferenceTest(unittest.TestCase):

    def test_the_shorter_list_though_its_ids_are_greater(self):
        facts = (above(1, 0), above(2, 1), above(2, 0))
        self.assertEqual(last(3, *facts, above(0, 2)), [-4, 1, 3])
        self.assertEqual(last(3, *facts, same(0, 2)), [-4, 1, 3])

    def test_the_smaller_of_two_equal_facts(self):
        self.assertEqual(last(2, above(1, 0), above(1, 0), above(0, 1)), [-4, 1, 1])
        self.assertEqual(last(2, above(1, 0), above(1, 0), retract(1), above(0, 1)), [-4, 1, 2])
        self.assertEqual(last(1, date(0, 1, 5), date(0, 1, 4), find(0, 6, 6)), [-4, 1, 1])

    def test_the_first_id_decides_first(self):
        facts = (above(3, 1), above(2, 0), above(1, 0), above(3, 2))
        self.assertEqual(last(4, *facts, above(0, 3)), [-4, 2, 2, 4])

    def test_the_second_id_decides_then(self):
        facts = (above(3, 2), above(1, 0), above(2, 1), same(1, 4), above(3, 4))
        self.assertEqual(last(5, *facts, above(0, 3)), [-4, 3, 2, 3, 1])

    def test_ids_are_compared_as_numbers(self):
        facts = [above(5, 4)] * 8 + [above(3, 2), above(1, 0), above(2, 0), above(3, 1)]
        self.assertEqual(last(6, *facts, above(0, 3)), [-4, 2, 10, 12])

    def test_the_order_is_that_of_the_chain(self):
        facts = (above(2, 1), above(1, 0), above(2, 3), above(3, 0))
        self.assertEqual(last(4, *facts, above(0, 2)), [-4, 2, 2, 1])

    def test_a_step_over_years_counts_two_ids(self):
        facts = (date(0, 0, 1), date(3, 2, 3), above(3, 0))
        self.assertEqual(last(4, *facts, above(0, 3)), [-4, 1, 3])
        facts = (above(1, 0), above(3, 1), date(0, 0, 1), date(3, 2, 3))
        self.assertEqual(last(4, *facts, above(0, 3)), [-4, 2, 1, 2])
        facts = (date(0, 0, 1), date(3, 2, 3), above(1, 0), above(3, 1))
        self.assertEqual(last(4, *facts, above(0, 3)), [-4, 2, 1, 2])

    def test_of_several_years_the_smallest_ids(self):
        facts = (date(0, 0, 9), find(1, 30, 31), date(0, 0, 8), find(1, 40, 41), date(1, 35, 60))
        self.assertEqual(last(2, *facts, above(0, 1)), [-4, 2, 1, 2])
        self.assertEqual(last(2, *facts, retract(2), above(0, 1)), [-4, 2, 1, 4])
        self.assertEqual(last(2, *facts, retract(1), retract(2), retract(4), same(0, 1)), [-4, 2, 3, 5])

    def test_a_same_fact_against_a_shorter_way(self):
        facts = (same(0, 1), above(2, 1), same(2, 3), above(3, 0))
        self.assertEqual(last(4, *facts, above(0, 3)), [-4, 1, 4])
        self.assertEqual(last(4, *facts, retract(4), above(0, 3)), [-4, 3, 1, 2, 3])

    def test_finds_and_dates_behind_chains_of_equal_length(self):
        facts = (date(2, 0, 5), date(1, 0, 5), above(1, 0), above(2, 0))
        self.assertEqual(last(3, *facts, find(0, 6, 6)), [-4, 2, 3, 2])
        self.assertEqual(last(3, *facts, date(0, 6, 6)), [-4, 2, 3, 2])

    def test_both_lists_of_a_date_by_their_ids(self):
        facts = (above(1, 0), find(2, 50, 50), date(1, 0, 60), above(0, 2))
        self.assertEqual(ask(3, *facts, date(0, 0, 49), date(0, 61, 70))[4:], [[-4, 2, 2, 4], [-4, 2, 1, 3]])
        facts = (find(0, 50, 50), date(0, 0, 60), above(1, 0), above(0, 2), date(2, 7, 60))
        self.assertEqual(ask(3, *facts, date(1, 0, 6), date(1, 0, 49), find(2, 61, 61))[5:],
                         [[-4, 2, 1, 3], [-4, 2, 1, 3], [-4, 1, 5]])

    def test_a_retracted_fact_is_in_no_list(self):
        facts = (above(1, 0), above(2, 1), above(2, 0))
        self.assertEqual(last(3, *facts, retract(3), above(0, 2)), [-4, 2, 1, 2])
        self.assertEqual(last(3, *facts, retract(3), retract(1), above(0, 2)), [4])

    def test_a_long_chain(self):
        facts = [above(unit + 1, unit) for unit in range(11)]
        self.assertEqual(last(12, *facts, above(0, 11)), [-4, 11] + list(range(1, 12)))
        self.assertEqual(last(12, *facts, date(11, 5, 6), find(0, 7, 7)), [-4, 12] + list(range(1, 13)))
        self.assertEqual(last(12, *facts, find(0, 7, 7), date(11, 5, 6)), [-4, 12, 12] + list(range(1, 12)))


class AcceptedTest(unittest.TestCase):

    def test_a_fact_that_narrows_is_no_contradiction(self):
        self.assertEqual(
            ask(2, date(0, 0, 100), date(1, 0, 100), above(1, 0), find(1, 100, 200), date(0, 100, 100), is_earlier(0, 1)),
            [[1], [2], [3], [4], [5], [0, 1]],
        )

    def test_the_ends_of_all_years_are_no_contradiction(self):
        self.assertEqual(
            ask(2, above(1, 0), find(0, 2100, 2100), date(1, 2100, 2100)), [[1], [2], [3]],
        )
        self.assertEqual(
            ask(2, above(1, 0), date(1, -5000, -5000), find(0, -5000, 2100)), [[1], [2], [3]],
        )


if __name__ == "__main__":
    unittest.main()
