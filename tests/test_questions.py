"""is_earlier, same_year, year_range and find_year_range, and what a retracted fact leaves of them."""

import unittest

from tests.helper import (
    above, ask, date, find, find_year_range, is_earlier, last, retract, same, same_year, year_range,
)


class IsEarlierTest(unittest.TestCase):

    def test_the_three_answers(self):
        facts = (above(1, 0),)
        self.assertEqual(
            ask(3, *facts, is_earlier(0, 1), is_earlier(1, 0), is_earlier(0, 2), is_earlier(2, 0))[1:],
            [[0, 1], [0, 0], [0, 2], [0, 2]],
        )

    def test_a_unit_is_not_earlier_than_itself(self):
        self.assertEqual(last(1, is_earlier(0, 0)), [0, 0])
        self.assertEqual(last(3, above(2, 1), same(0, 1), date(1, 5, 5), is_earlier(1, 1)), [0, 0])

    def test_units_of_one_stratum(self):
        facts = (same(0, 1), same(2, 1))
        questions = (is_earlier(0, 1), is_earlier(1, 0), is_earlier(0, 2), is_earlier(2, 0), is_earlier(0, 3))
        self.assertEqual(ask(4, *facts, *questions)[2:], [[0, 0], [0, 0], [0, 0], [0, 0], [0, 2]])

    def test_a_chain_over_other_units(self):
        facts = (above(1, 0), same(1, 2), above(3, 2))
        self.assertEqual(
            ask(4, *facts, is_earlier(0, 3), is_earlier(3, 0), is_earlier(0, 2), is_earlier(1, 3), is_earlier(2, 1))[3:],
            [[0, 1], [0, 0], [0, 1], [0, 1], [0, 0]],
        )

    def test_units_above_the_same_unit(self):
        self.assertEqual(last(3, above(1, 0), above(2, 0), is_earlier(1, 2)), [0, 2])
        self.assertEqual(last(3, above(0, 1), above(0, 2), is_earlier(1, 2)), [0, 2])

    def test_dates_alone(self):
        self.assertEqual(last(2, date(0, 0, 19), date(1, 20, 30), is_earlier(0, 1)), [0, 1])
        self.assertEqual(last(2, date(0, 0, 19), date(1, 20, 30), is_earlier(1, 0)), [0, 0])
        self.assertEqual(last(2, date(0, 0, 20), date(1, 20, 30), is_earlier(0, 1)), [0, 2])
        self.assertEqual(last(2, date(0, 0, 20), date(1, 20, 30), is_earlier(1, 0)), [0, 2])

    def test_a_date_and_a_find(self):
        self.assertEqual(last(2, date(0, 0, 19), find(1, 20, 30), is_earlier(0, 1)), [0, 1])
        self.assertEqual(last(2, date(0, 0, 19), find(1, 20, 30), is_earlier(1, 0)), [0, 0])
        self.assertEqual(last(2, date(0, 0, 20), find(1, 20, 30), is_earlier(0, 1)), [0, 2])

    def test_equal_years_tell_no_order(self):
        self.assertEqual(last(2, date(0, 7, 7), date(1, 7, 7), is_earlier(0, 1)), [0, 2])

    def test_a_find_does_not_tell_that_a_unit_is_early(self):
        self.assertEqual(last(2, find(0, 0, 1), find(1, 20, 30), is_earlier(0, 1)), [0, 2])
        self.assertEqual(last(2, find(0, 0, 1), date(1, 20, 30), is_earlier(0, 1)), [0, 2])

    def test_years_of_several_facts_together(self):
        facts = (date(0, 0, 50), date(0, 10, 90), find(1, 0, 90), find(1, 51, 52))
        self.assertEqual(last(2, *facts, is_earlier(0, 1)), [0, 1])

    def test_years_of_neighbours(self):
        facts = (above(1, 0), date(1, 0, 10), find(2, 11, 20), above(3, 2))
        self.assertEqual(
            ask(5, *facts, is_earlier(0, 3), is_earlier(3, 0), is_earlier(0, 2), is_earlier(1, 3), is_earlier(0, 4))[4:],
            [[0, 1], [0, 0], [0, 1], [0, 1], [0, 2]],
        )

    def test_a_retracted_fact_decides_no_more(self):
        self.assertEqual(
            ask(2, above(1, 0), is_earlier(0, 1), retract(1), is_earlier(0, 1), is_earlier(1, 0)),
            [[1], [0, 1], [0], [0, 2], [0, 2]],
        )


class SameYearTest(unittest.TestCase):

    def check(self, units, facts, a, b, answer):
        """Both orders of the two units are answered alike."""
        self.assertEqual(ask(units, *facts, same_year(a, b), same_year(b, a))[len(facts):], [[0, answer]] * 2)

    def test_without_facts(self):
        self.check(2, [], 0, 1, 2)

    def test_a_unit_and_itself(self):
        self.assertEqual(last(1, same_year(0, 0)), [0, 1])
        self.assertEqual(last(2, date(0, 5, 9), above(1, 0), same_year(0, 0)), [0, 1])

    def test_units_of_one_stratum(self):
        facts = (same(0, 1), same(2, 1))
        self.check(4, facts, 0, 1, 1)
        self.check(4, facts, 0, 2, 1)
        self.check(4, facts, 2, 3, 2)

    def test_the_same_single_year(self):
        self.check(2, (date(0, 7, 7), date(1, 7, 7)), 0, 1, 1)
        self.check(2, (date(0, 7, 7), date(1, 7, 7), above(1, 0)), 0, 1, 1)
        self.check(2, (date(0, 2100, 2100), find(1, 2100, 2100)), 0, 1, 1)
        self.check(2, (date(0, -5000, -5000), date(1, -5000, -5000)), 0, 1, 1)

    def test_a_single_year_by_facts_of_other_units(self):
        facts = (above(1, 0), above(2, 1), find(0, 7, 9), date(2, 0, 7), same(3, 2))
        self.check(4, facts, 0, 1, 1)
        self.check(4, facts, 1, 3, 1)

    def test_ranges_that_do_not_meet(self):
        self.check(2, (date(0, 0, 19), date(1, 20, 30)), 0, 1, 0)
        self.check(2, (date(0, 0, 19), find(1, 20, 30)), 0, 1, 0)
        self.check(2, (date(0, 7, 7), date(1, 8, 8)), 0, 1, 0)

    def test_ranges_that_meet_in_one_year(self):
        self.check(2, (date(0, 0, 20), date(1, 20, 30)), 0, 1, 2)
        self.check(2, (date(0, 0, 20), find(1, 20, 30)), 0, 1, 2)

    def test_a_single_year_within_the_other_range(self):
        self.check(2, (date(0, 7, 7), date(1, 0, 30)), 0, 1, 2)
        self.check(2, (date(0, 7, 7), date(1, 7, 8)), 0, 1, 2)
        self.check(2, (date(0, 7, 7), date(1, 6, 7)), 0, 1, 2)

    def test_the_same_range_of_several_years(self):
        self.check(2, (date(0, 7, 8), date(1, 7, 8)), 0, 1, 2)
        self.check(2, (date(0, 7, 8), date(1, 7, 8), above(1, 0)), 0, 1, 2)

    def test_a_unit_above_another(self):
        self.check(2, (above(1, 0),), 0, 1, 2)

    def test_ranges_that_other_units_narrow(self):
        facts = (date(0, 0, 50), above(1, 0), date(1, 0, 10), date(2, 11, 90), above(3, 2))
        self.check(4, facts, 0, 3, 0)
        self.check(4, facts, 1, 3, 0)
        self.check(4, facts, 0, 1, 2)

    def test_the_years_of_finds_are_no_years_of_units(self):
        self.check(2, (find(0, 7, 7), find(1, 9, 9)), 0, 1, 2)
        self.check(2, (find(0, 7, 7), find(1, 7, 7)), 0, 1, 2)

    def test_a_retracted_fact_decides_no_more(self):
        self.assertEqual(
            ask(2, date(0, 7, 7), date(1, 7, 7), same_year(0, 1), retract(2), same_year(0, 1), date(1, 8, 9),
                same_year(0, 1))[2:],
            [[0, 1], [0], [0, 2], [3], [0, 0]],
        )
        self.assertEqual(ask(2, same(0, 1), retract(1), same_year(0, 1))[2:], [[0, 2]])


class YearRangeTest(unittest.TestCase):

    def test_without_facts(self):
        self.assertEqual(last(1, year_range(0)), [0, -5000, 2100])

    def test_dates_of_the_unit(self):
        self.assertEqual(last(1, date(0, 10, 20), year_range(0)), [0, 10, 20])
        self.assertEqual(last(1, date(0, 10, 20), date(0, 15, 40), date(0, -7, 19), year_range(0)), [0, 15, 19])

    def test_a_find_sets_the_earliest_year_alone(self):
        self.assertEqual(last(1, find(0, 10, 20), year_range(0)), [0, 10, 2100])
        self.assertEqual(last(1, find(0, 10, 20), find(0, 12, 12), find(0, 3, 90), year_range(0)), [0, 12, 2100])

    def test_units_below_and_above(self):
        facts = (above(1, 0), above(2, 1), date(0, 10, 50), date(2, 5, 40))
        self.assertEqual(
            ask(3, *facts, year_range(0), year_range(1), year_range(2))[4:],
            [[0, 10, 40], [0, 10, 40], [0, 10, 40]],
        )

    def test_finds_of_units_below_but_not_above(self):
        facts = (above(1, 0), above(2, 1), find(0, 10, 20), find(2, 30, 35))
        self.assertEqual(
            ask(3, *facts, year_range(0), year_range(1), year_range(2))[4:],
            [[0, 10, 2100], [0, 10, 2100], [0, 30, 2100]],
        )

    def test_units_of_the_stratum(self):
        facts = (same(0, 1), same(2, 1), date(0, 10, 50), find(2, 30, 90))
        self.assertEqual(
            ask(4, *facts, year_range(0), year_range(1), year_range(2), year_range(3))[4:],
            [[0, 30, 50], [0, 30, 50], [0, 30, 50], [0, -5000, 2100]],
        )

    def test_the_nearest_years_of_several_units(self):
        facts = (above(2, 0), above(2, 1), find(0, 10, 20), find(1, 15, 16), above(3, 2), above(4, 2),
                 date(3, 0, 90), date(4, 0, 80))
        self.assertEqual(last(5, *facts, year_range(2)), [0, 15, 80])

    def test_units_that_only_years_order(self):
        facts = (date(0, 0, 10), date(1, 20, 30), above(2, 1))
        self.assertEqual(
            ask(3, *facts, year_range(0), year_range(1), year_range(2))[3:],
            [[0, 0, 10], [0, 20, 30], [0, 20, 2100]],
        )

    def test_unrelated_units(self):
        self.assertEqual(last(3, date(0, 1, 2), date(1, 3, 4), above(1, 0), year_range(2)), [0, -5000, 2100])

    def test_a_single_year(self):
        self.assertEqual(last(3, above(1, 0), above(2, 1), find(0, 7, 9), date(2, 7, 7), year_range(1)), [0, 7, 7])

    def test_a_retracted_fact_narrows_no_more(self):
        self.assertEqual(
            ask(2, above(1, 0), date(0, 10, 20), date(1, 15, 18), retract(2), year_range(0), retract(1), year_range(0))[3:],
            [[0], [0, -5000, 18], [0], [0, -5000, 2100]],
        )


class FindYearRangeTest(unittest.TestCase):

    def test_the_years_of_the_fact(self):
        self.assertEqual(last(1, find(0, -10, 20), find_year_range(1)), [0, -10, 20])
        self.assertEqual(last(1, find(0, -5000, 2100), find_year_range(1)), [0, -5000, 2100])

    def test_the_date_of_the_unit(self):
        self.assertEqual(last(1, find(0, 10, 30), date(0, 0, 20), find_year_range(1)), [0, 10, 20])
        self.assertEqual(last(1, find(0, 10, 30), date(0, 0, 10), find_year_range(1)), [0, 10, 10])
        self.assertEqual(last(1, find(0, 10, 30), date(0, 0, 30), find_year_range(1)), [0, 10, 30])
        self.assertEqual(last(1, find(0, 10, 30), date(0, 25, 90), find_year_range(1)), [0, 10, 30])

    def test_the_date_of_a_later_unit(self):
        facts = (find(0, 10, 30), above(1, 0), same(1, 2), date(2, 0, 20))
        self.assertEqual(last(3, *facts, find_year_range(1)), [0, 10, 20])

    def test_the_date_of_an_earlier_unit_narrows_nothing(self):
        facts = (find(1, 10, 30), above(1, 0), date(0, 15, 20))
        self.assertEqual(last(2, *facts, find_year_range(1)), [0, 10, 30])

    def test_other_finds_narrow_nothing(self):
        facts = (find(0, 10, 30), find(0, 20, 25), find(0, 5, 8))
        self.assertEqual(
            ask(1, *facts, find_year_range(1), find_year_range(2), find_year_range(3))[3:],
            [[0, 10, 30], [0, 20, 25], [0, 5, 8]],
        )

    def test_a_find_among_retracted_facts(self):
        facts = (date(0, 0, 12), find(0, 10, 30), date(0, 0, 20))
        self.assertEqual(
            ask(1, *facts, find_year_range(2), retract(1), find_year_range(2), retract(3), find_year_range(2))[3:],
            [[0, 10, 12], [0], [0, 10, 20], [0], [0, 10, 30]],
        )


if __name__ == "__main__":
    unittest.main()
