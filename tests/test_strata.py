"""stratum, position_range and harris_matrix."""

import itertools
import unittest

from tests.helper import (
    HARRIS_MATRIX, above, ask, behind, date, find, is_earlier, last, position_range, retract, same, stratum,
)


def strata(units, *facts):
    """The answers about the stratum of each unit."""
    return behind(units, facts, [stratum(unit) for unit in range(units)])


def positions(units, *facts):
    """The answers about the positions of each unit's stratum."""
    return behind(units, facts, [position_range(unit) for unit in range(units)])


class StratumTest(unittest.TestCase):

    def test_units_without_same_facts(self):
        self.assertEqual(strata(1), [[0, 0]])
        self.assertEqual(strata(3, above(1, 0), date(2, 5, 5), find(1, 5, 5)), [[0, 0], [0, 1], [0, 2]])

    def test_units_that_are_joined_directly(self):
        self.assertEqual(strata(4, same(3, 1)), [[0, 0], [0, 1], [0, 2], [0, 1]])
        self.assertEqual(strata(4, same(1, 3)), [[0, 0], [0, 1], [0, 2], [0, 1]])

    def test_units_that_are_joined_through_others(self):
        self.assertEqual(strata(5, same(4, 3), same(3, 2), same(2, 1)), [[0, 0], [0, 1], [0, 1], [0, 1], [0, 1]])
        self.assertEqual(strata(5, same(1, 4), same(4, 2), same(3, 2)), [[0, 0], [0, 1], [0, 1], [0, 1], [0, 1]])

    def test_two_strata_of_several_units(self):
        facts = (same(1, 5), same(2, 4), same(5, 3), same(4, 0))
        self.assertEqual(strata(6, *facts), [[0, 0], [0, 1], [0, 0], [0, 1], [0, 0], [0, 1]])
        self.assertEqual(strata(6, *facts, same(3, 2)), [[0, 0]] * 6)

    def test_equal_years_make_no_stratum(self):
        self.assertEqual(strata(2, date(0, 7, 7), date(1, 7, 7)), [[0, 0], [0, 1]])

    def test_a_retracted_fact_joins_no_more(self):
        facts = (same(0, 1), same(1, 2), same(2, 3))
        self.assertEqual(strata(4, *facts, retract(2)), [[0, 0], [0, 0], [0, 2], [0, 2]])
        self.assertEqual(strata(4, *facts, same(3, 0), retract(2)), [[0, 0]] * 4)
        self.assertEqual(strata(4, *facts, same(0, 1), retract(1)), [[0, 0]] * 4)

    def test_twelve_units_in_a_ring(self):
        facts = [same(unit, (unit + 5) % 12) for unit in range(12)]
        self.assertEqual(strata(12, *facts), [[0, 0]] * 12)
        self.assertEqual(strata(12, *facts, retract(1)), [[0, 0]] * 12)
        # The links between 0 and 5 and between 6 and 11 are gone.
        due = [[0, 1] if unit in (5, 10, 3, 8, 1, 6) else [0, 0] for unit in range(12)]
        self.assertEqual(strata(12, *facts, retract(1), retract(7)), due)


class PositionRangeTest(unittest.TestCase):

    def test_without_facts(self):
        self.assertEqual(positions(1), [[0, 0, 0]])
        self.assertEqual(positions(3), [[0, 0, 2]] * 3)

    def test_a_full_order(self):
        self.assertEqual(positions(3, above(0, 2), above(1, 0)), [[0, 1, 1], [0, 2, 2], [0, 0, 0]])

    def test_units_beside_one_another(self):
        facts = (above(1, 0), above(2, 0), above(3, 1), above(3, 2))
        self.assertEqual(positions(4, *facts), [[0, 0, 0], [0, 1, 2], [0, 1, 2], [0, 3, 3]])
        self.assertEqual(
            positions(5, *facts), [[0, 0, 1], [0, 1, 3], [0, 1, 3], [0, 3, 4], [0, 0, 4]],
        )

    def test_strata_are_counted_and_not_units(self):
        facts = (same(1, 2), same(2, 4), above(3, 2))
        self.assertEqual(
            positions(5, *facts), [[0, 0, 2], [0, 0, 1], [0, 0, 1], [0, 1, 2], [0, 0, 1]],
        )

    def test_years_alone(self):
        facts = (date(0, 20, 30), date(1, 0, 10), find(2, 15, 16))
        self.assertEqual(positions(3, *facts), [[0, 1, 2], [0, 0, 0], [0, 1, 2]])

    def test_a_retracted_fact_orders_no_more(self):
        self.assertEqual(positions(2, above(1, 0), retract(1)), [[0, 0, 1], [0, 0, 1]])


class HarrisMatrixTest(unittest.TestCase):

    def test_no_pairs(self):
        self.assertEqual(last(0, HARRIS_MATRIX), [0, 0])
        self.assertEqual(last(1, HARRIS_MATRIX), [0, 0])
        self.assertEqual(last(3, same(0, 1), date(2, 5, 9), HARRIS_MATRIX), [0, 0])

    def test_the_earlier_stratum_stands_first(self):
        self.assertEqual(last(2, above(1, 0), HARRIS_MATRIX), [0, 1, 0, 1])
        self.assertEqual(last(2, above(0, 1), HARRIS_MATRIX), [0, 1, 1, 0])

    def test_the_pairs_are_sorted(self):
        facts = (above(0, 3), above(0, 2), above(1, 3), above(1, 2), above(4, 0))
        self.assertEqual(last(5, *facts, HARRIS_MATRIX), [0, 5, 0, 4, 2, 0, 2, 1, 3, 0, 3, 1])

    def test_what_follows_from_other_pairs_is_left_out(self):
        facts = (above(3, 0), above(2, 0), above(1, 0), above(2, 1), above(3, 2))
        self.assertEqual(last(4, *facts, HARRIS_MATRIX), [0, 3, 0, 1, 1, 2, 2, 3])
        self.assertEqual(last(4, *facts, retract(4), HARRIS_MATRIX), [0, 3, 0, 1, 0, 2, 2, 3])

    def test_a_pair_that_is_told_twice_stands_once(self):
        self.assertEqual(
            last(2, above(1, 0), above(1, 0), date(0, 1, 2), date(1, 3, 4), HARRIS_MATRIX), [0, 1, 0, 1],
        )

    def test_dates_and_finds_alone(self):
        facts = (date(0, 0, 10), date(1, 11, 20), find(2, 21, 22), find(3, 11, 12))
        self.assertEqual(last(4, *facts, HARRIS_MATRIX), [0, 3, 0, 1, 0, 3, 1, 2])

    def test_years_that_meet_order_nothing(self):
        self.assertEqual(last(2, date(0, 0, 10), date(1, 10, 20), HARRIS_MATRIX), [0, 0])
        self.assertEqual(last(2, date(0, 0, 10), date(1, 11, 20), HARRIS_MATRIX), [0, 1, 0, 1])

    def test_above_facts_and_years_together(self):
        facts = (above(1, 0), date(1, 0, 10), find(2, 11, 12), above(3, 2))
        self.assertEqual(last(4, *facts, HARRIS_MATRIX), [0, 3, 0, 1, 1, 2, 2, 3])
        # What only the years tell follows here from the above facts, too.
        self.assertEqual(last(4, *facts, above(2, 1), above(3, 0), HARRIS_MATRIX), [0, 3, 0, 1, 1, 2, 2, 3])

    def test_a_date_that_facts_of_other_units_narrow(self):
        # Unit 0 is not later than unit 1, hence not later than 10; unit 3 not earlier than unit 2.
        facts = (date(0, 0, 50), above(1, 0), date(1, 0, 10), date(2, 11, 90), above(3, 2), date(3, 5, 95))
        self.assertEqual(last(4, *facts, HARRIS_MATRIX), [0, 3, 0, 1, 1, 2, 2, 3])
        self.assertEqual(ask(4, *facts, is_earlier(0, 3), is_earlier(3, 0))[6:], [[0, 1], [0, 0]])
        self.assertEqual(ask(4, *facts, retract(3), is_earlier(0, 3), HARRIS_MATRIX)[7:],
                         [[0, 2], [0, 2, 0, 1, 2, 3]])

    def test_representatives_alone_are_named(self):
        facts = (same(0, 3), same(3, 5), same(4, 2), above(4, 5), above(1, 2))
        self.assertEqual(last(6, *facts, HARRIS_MATRIX), [0, 2, 0, 2, 2, 1])
        self.assertEqual(ask(6, *facts, position_range(5), position_range(4))[5:], [[0, 0, 0], [0, 1, 1]])

    def test_what_is_said_of_one_unit_holds_of_its_stratum(self):
        # The years of units 3 and 4 order the strata 1 and 2.
        facts = (same(1, 3), same(2, 4), date(3, 0, 10), find(4, 11, 12), above(0, 4))
        self.assertEqual(last(5, *facts, HARRIS_MATRIX), [0, 2, 1, 2, 2, 0])
        self.assertEqual(
            ask(5, *facts, is_earlier(1, 2), is_earlier(3, 4), is_earlier(1, 0), is_earlier(4, 3))[5:],
            [[0, 1], [0, 1], [0, 1], [0, 0]],
        )

    def test_many_pairs(self):
        facts = [above(upper, lower) for lower in range(6) for upper in range(6, 12)]
        pairs = [number for pair in itertools.product(range(6), range(6, 12)) for number in pair]
        self.assertEqual(last(12, *facts, HARRIS_MATRIX), [0, 36] + pairs)


if __name__ == "__main__":
    unittest.main()
