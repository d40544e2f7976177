"""first_sequence and count_sequences."""

import math
import unittest

from tests.helper import (
    COUNT_SEQUENCES, FIRST_SEQUENCE, above, ask, date, find, last, retract, same,
)


class FirstSequenceTest(unittest.TestCase):

    def test_without_facts(self):
        self.assertEqual(last(0, FIRST_SEQUENCE), [0, 0])
        self.assertEqual(last(1, FIRST_SEQUENCE), [0, 1, 0])
        self.assertEqual(last(12, FIRST_SEQUENCE), [0, 12] + list(range(12)))

    def test_the_earliest_stratum_stands_first(self):
        self.assertEqual(last(3, above(0, 2), above(1, 0), FIRST_SEQUENCE), [0, 3, 2, 0, 1])

    def test_a_small_number_stands_as_early_as_it_can(self):
        self.assertEqual(last(4, above(0, 3), FIRST_SEQUENCE), [0, 4, 1, 2, 3, 0])
        self.assertEqual(last(4, above(1, 3), FIRST_SEQUENCE), [0, 4, 0, 2, 3, 1])
        self.assertEqual(last(4, above(0, 1), above(2, 3), FIRST_SEQUENCE), [0, 4, 1, 0, 3, 2])

    def test_the_smallest_first_number_decides(self):
        # Unit 0 could stand at position 1 behind unit 3, but then unit 1 would not stand first.
        self.assertEqual(last(4, above(0, 3), above(2, 1), FIRST_SEQUENCE), [0, 4, 1, 2, 3, 0])

    def test_years_alone(self):
        self.assertEqual(last(3, date(2, 0, 10), date(1, 11, 20), find(0, 21, 22), FIRST_SEQUENCE), [0, 3, 2, 1, 0])

    def test_strata_and_not_units(self):
        facts = (same(1, 4), same(3, 0), above(0, 4))
        self.assertEqual(last(5, *facts, FIRST_SEQUENCE), [0, 3, 1, 0, 2])
        self.assertEqual(last(5, *facts, above(3, 2), FIRST_SEQUENCE), [0, 3, 1, 2, 0])

    def test_one_stratum(self):
        self.assertEqual(last(3, same(2, 1), same(1, 0), FIRST_SEQUENCE), [0, 1, 0])

    def test_a_retracted_fact_orders_no_more(self):
        self.assertEqual(last(2, above(0, 1), retract(1), FIRST_SEQUENCE), [0, 2, 0, 1])


class CountSequencesTest(unittest.TestCase):

    def test_without_facts(self):
        for units in range(13):
            with self.subTest(units):
                self.assertEqual(last(units, COUNT_SEQUENCES), [0, math.factorial(units)])

    def test_no_units(self):
        self.assertEqual(last(0, COUNT_SEQUENCES), [0, 1])

    def test_a_full_order(self):
        self.assertEqual(last(3, above(0, 2), above(1, 0), COUNT_SEQUENCES), [0, 1])

    def test_units_beside_one_another(self):
        facts = (above(1, 0), above(2, 0), above(3, 1), above(3, 2))
        self.assertEqual(last(4, *facts, COUNT_SEQUENCES), [0, 2])
        self.assertEqual(last(5, *facts, COUNT_SEQUENCES), [0, 10])

    def test_pairs_side_by_side(self):
        facts = [above(2 * pair + 1, 2 * pair) for pair in range(6)]
        for count in range(7):
            with self.subTest(count):
                self.assertEqual(last(12, *facts[:count], COUNT_SEQUENCES), [0, math.factorial(12) // 2 ** count])

    def test_two_long_chains(self):
        facts = [above(unit + 2, unit) for unit in range(10)]
        self.assertEqual(last(12, *facts, COUNT_SEQUENCES), [0, math.comb(12, 6)])

    def test_the_ladder(self):
        # Of two chains with each step of one above that of the other: the sixth Catalan number.
        facts = [above(unit + 2, unit) for unit in range(10)] + [above(unit + 1, unit) for unit in range(0, 12, 2)]
        self.assertEqual(last(12, *facts, COUNT_SEQUENCES), [0, 132])

    def test_strata_and_not_units(self):
        self.assertEqual(last(6, same(0, 3), same(4, 3), COUNT_SEQUENCES), [0, 24])
        self.assertEqual(last(6, same(0, 3), same(4, 3), above(5, 4), COUNT_SEQUENCES), [0, 12])

    def test_years_alone(self):
        facts = (date(0, 0, 10), date(1, 5, 20), find(2, 11, 12))
        self.assertEqual(last(3, *facts, COUNT_SEQUENCES), [0, 3])
        self.assertEqual(last(3, *facts, date(1, 0, 10), COUNT_SEQUENCES), [0, 2])

    def test_single_years(self):
        facts = [date(unit, unit // 3, unit // 3) for unit in range(12)]
        self.assertEqual(last(12, *facts, COUNT_SEQUENCES), [0, 6 ** 4])

    def test_retracted_facts(self):
        self.assertEqual(
            ask(3, above(1, 0), above(2, 1), COUNT_SEQUENCES, retract(1), COUNT_SEQUENCES, retract(2),
                COUNT_SEQUENCES)[2:],
            [[0, 1], [0], [0, 3], [0], [0, 6]],
        )


class SumTest(unittest.TestCase):
    """The sequences of an undetermined pair are those of the one order and those of the other."""

    def check_sum(self, units, facts, a, b):
        given = ask(
            units, *facts, COUNT_SEQUENCES, above(b, a), COUNT_SEQUENCES, retract(len(facts) + 1), above(a, b),
            COUNT_SEQUENCES,
        )[len(facts):]
        whole, accepted, one, gone, accepted_too, other = given
        self.assertEqual([accepted, gone, accepted_too], [[len(facts) + 1], [0], [len(facts) + 2]])
        self.assertEqual(whole[1], one[1] + other[1])

    def test_without_facts(self):
        for units in (2, 3, 12):
            self.check_sum(units, [], 0, 1)

    def test_above_facts(self):
        facts = [above(unit + 3, unit) for unit in range(9)] + [above(5, 1)]
        for a, b in ((0, 1), (1, 2), (2, 3), (0, 11), (4, 8), (9, 10)):
            with self.subTest((a, b)):
                self.check_sum(12, facts, a, b)

    def test_years_and_strata(self):
        facts = [date(0, 0, 10), find(1, 11, 12), same(1, 2), above(4, 3), date(4, 0, 50), find(5, 51, 51), above(6, 1)]
        for a, b in ((0, 3), (0, 4), (1, 3), (1, 5), (2, 5), (6, 5), (6, 4), (0, 7)):
            with self.subTest((a, b)):
                self.check_sum(9, facts, a, b)


if __name__ == "__main__":
    unittest.main()
