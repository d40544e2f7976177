"""explain: the preferred strict chain from one unit to another."""

import itertools
import unittest

from tests.helper import (
    Numbers, above, ask, behind, date, explain, find, is_earlier, last, retract, same, some_fact,
)


class ChainTest(unittest.TestCase):

    def test_one_above_fact(self):
        self.assertEqual(last(2, above(1, 0), explain(0, 1)), [0, 1, 1])
        self.assertEqual(last(2, above(0, 1), explain(1, 0)), [0, 1, 1])

    def test_several_above_facts_in_the_order_of_the_chain(self):
        facts = (above(2, 1), above(3, 2), above(1, 0))
        self.assertEqual(last(4, *facts, explain(0, 3)), [0, 3, 3, 1, 2])
        self.assertEqual(last(4, *facts, explain(1, 3)), [0, 2, 1, 2])

    def test_same_facts_on_the_way(self):
        facts = (same(1, 0), above(2, 1), same(2, 3))
        self.assertEqual(last(4, *facts, explain(0, 3)), [0, 3, 1, 2, 3])
        self.assertEqual(last(4, *facts, explain(0, 2)), [0, 2, 1, 2])
        self.assertEqual(last(4, *facts, explain(1, 3)), [0, 2, 2, 3])

    def test_a_step_over_years(self):
        self.assertEqual(last(2, date(0, 0, 10), date(1, 11, 20), explain(0, 1)), [0, 2, 1, 2])
        self.assertEqual(last(2, date(1, 11, 20), date(0, 0, 10), explain(0, 1)), [0, 2, 2, 1])
        self.assertEqual(last(2, find(1, 11, 20), date(0, 0, 10), explain(0, 1)), [0, 2, 2, 1])

    def test_steps_of_all_kinds(self):
        facts = (find(2, 50, 60), same(1, 0), date(1, 10, 49), above(3, 2), same(4, 3))
        self.assertEqual(last(5, *facts, explain(0, 4)), [0, 5, 2, 3, 1, 4, 5])
        self.assertEqual(last(5, *facts, explain(1, 2)), [0, 2, 3, 1])

    def test_a_long_chain(self):
        facts = [above(unit + 1, unit) for unit in range(11)]
        self.assertEqual(last(12, *facts, explain(0, 11)), [0, 11] + list(range(1, 12)))
        facts = [same(unit + 1, unit) for unit in range(10)] + [above(11, 10)]
        self.assertEqual(last(12, *facts, explain(0, 11)), [0, 11] + list(range(1, 12)))


class PreferenceTest(unittest.TestCase):

    def test_the_shorter_chain_though_its_ids_are_greater(self):
        facts = (above(1, 0), above(2, 1), above(2, 0))
        self.assertEqual(last(3, *facts, explain(0, 2)), [0, 1, 3])
        self.assertEqual(last(3, *facts, retract(3), explain(0, 2)), [0, 2, 1, 2])

    def test_the_smaller_of_equal_facts(self):
        self.assertEqual(last(2, above(1, 0), above(1, 0), explain(0, 1)), [0, 1, 1])
        self.assertEqual(last(2, above(1, 0), above(1, 0), retract(1), explain(0, 1)), [0, 1, 2])

    def test_the_lexicographically_smallest_of_equal_length(self):
        self.assertEqual(
            last(4, above(3, 1), above(2, 0), above(1, 0), above(3, 2), explain(0, 3)), [0, 2, 2, 4],
        )
        self.assertEqual(
            last(5, above(3, 2), above(1, 0), above(2, 1), same(1, 4), above(3, 4), explain(0, 3)), [0, 3, 2, 3, 1],
        )

    def test_ids_are_compared_as_numbers(self):
        facts = [above(5, 4)] * 8 + [above(3, 2), above(1, 0), above(2, 0), above(3, 1)]
        self.assertEqual(last(6, *facts, explain(0, 3)), [0, 2, 10, 12])

    def test_a_step_over_years_against_above_facts(self):
        years = (date(0, 0, 1), date(3, 2, 3))
        self.assertEqual(last(4, *years, above(3, 0), explain(0, 3)), [0, 1, 3])
        self.assertEqual(last(4, *years, above(1, 0), above(3, 1), explain(0, 3)), [0, 2, 1, 2])
        self.assertEqual(last(4, above(1, 0), above(3, 1), *years, explain(0, 3)), [0, 2, 1, 2])
        self.assertEqual(
            last(5, above(1, 0), above(2, 1), above(3, 2), *years, explain(0, 3)), [0, 2, 4, 5],
        )

    def test_one_step_over_years_instead_of_two(self):
        facts = (date(0, 0, 10), date(1, 11, 20), date(2, 21, 30))
        self.assertEqual(last(3, *facts, explain(0, 2)), [0, 2, 1, 3])

    def test_of_several_years_the_smallest_ids(self):
        facts = (date(0, 0, 9), find(1, 30, 31), date(0, 0, 8), find(1, 40, 41), date(1, 35, 60))
        self.assertEqual(last(2, *facts, explain(0, 1)), [0, 2, 1, 2])
        self.assertEqual(last(2, *facts, retract(1), explain(0, 1)), [0, 2, 3, 2])
        self.assertEqual(last(2, *facts, retract(1), retract(2), retract(4), explain(0, 1)), [0, 2, 3, 5])

    def test_a_same_fact_is_taken_only_where_it_shortens(self):
        facts = (same(0, 1), above(2, 1), same(2, 3), above(3, 0))
        self.assertEqual(last(4, *facts, explain(0, 3)), [0, 1, 4])
        self.assertEqual(last(4, *facts, explain(1, 3)), [0, 2, 1, 4])
        self.assertEqual(last(4, *facts, explain(0, 2)), [0, 2, 1, 2])


class NotEarlierTest(unittest.TestCase):

    def test_undetermined_units(self):
        self.assertEqual(last(2, explain(0, 1)), [-4])
        self.assertEqual(last(3, above(1, 0), above(2, 0), explain(1, 2)), [-4])
        self.assertEqual(last(2, date(0, 0, 10), date(1, 10, 20), explain(0, 1)), [-4])

    def test_the_other_way_round(self):
        self.assertEqual(last(2, above(1, 0), explain(1, 0)), [-4])
        self.assertEqual(last(2, date(0, 0, 10), date(1, 11, 20), explain(1, 0)), [-4])

    def test_a_unit_and_itself(self):
        self.assertEqual(last(1, explain(0, 0)), [-4])
        self.assertEqual(last(3, above(1, 0), above(2, 1), same(1, 0), explain(1, 1)), [-4])

    def test_units_of_one_stratum(self):
        facts = (same(0, 1), same(2, 1), above(3, 1))
        self.assertEqual(ask(4, *facts, explain(0, 1), explain(2, 0), explain(0, 2))[3:], [[-4], [-4], [-4]])

    def test_a_retracted_fact_proves_no_more(self):
        self.assertEqual(last(2, above(1, 0), retract(1), explain(0, 1)), [-4])


class EnoughTest(unittest.TestCase):
    """The facts named are enough without all others, and no smaller set of the active facts is."""

    def test_generated_sessions(self):
        lengths = set()
        for seed in range(30):
            with self.subTest(seed):
                numbers = Numbers(seed * 611953)
                calls = [some_fact(numbers, 6) for turn in range(12)]
                facts = [call for call, answer in zip(calls, ask(6, *calls)) if answer[0] > 0]
                lengths |= self.check_session(6, facts)
        self.assertGreaterEqual(lengths, {1, 2, 3, 4})

    def check_session(self, units, facts):
        pairs = list(itertools.product(range(units), repeat=2))
        explained = behind(units, facts, [explain(a, b) for a, b in pairs])
        earlier = behind(units, facts, [is_earlier(a, b) for a, b in pairs])
        lengths = set()
        for (a, b), answer, certain in zip(pairs, explained, earlier):
            self.assertEqual(answer[0], 0 if certain == [0, 1] else -4)
            if answer != [-4]:
                lengths.add(answer[1])
                self.check_ids(units, facts, a, b, answer[2:])
        return lengths

    def check_ids(self, units, facts, a, b, ids):
        named = [facts[fact_id - 1] for fact_id in ids]
        self.assertEqual(last(units, *named, is_earlier(a, b)), [0, 1])
        for fewer in itertools.combinations(facts, len(ids) - 1):
            self.assertNotEqual(last(units, *fewer, is_earlier(a, b)), [0, 1])


if __name__ == "__main__":
    unittest.main()
