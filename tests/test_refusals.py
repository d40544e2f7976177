"""The errors -1, -3, -8 and -9, their edges, and which of several is told."""

import unittest

from tests.helper import (
    BEST_QUESTION, COUNT_SEQUENCES, FIRST_SEQUENCE, HARRIS_MATRIX, LIST_FACTS, UNIT, above, ask, date, explain, find,
    find_year_range, is_earlier, last, position_range, retract, same, same_year, stratum, year_range,
)

FAR = 4294967295
FAR_YEARS = (-2147483648, -5001, 2101, 2147483647)


class UnitTest(unittest.TestCase):

    def test_unit_eleven_is_in_range(self):
        for call in self.calls_with(11):
            with self.subTest(call):
                self.assertEqual(last(11, call), [-3])
                self.assert_answered(last(12, call))

    def test_beyond_unit_eleven(self):
        for unit in (12, 13, FAR):
            for call in self.calls_with(unit):
                with self.subTest(call):
                    self.assertEqual(last(0, call), [-1])
                    self.assertEqual(last(12, call), [-1])

    def test_below_unit_zero(self):
        for call in self.calls_with(-1):
            with self.subTest(call):
                self.assertEqual(last(3, call), [-1])

    def test_a_unit_that_does_not_exist(self):
        for call in self.calls_with(2):
            with self.subTest(call):
                self.assertEqual(last(1, call), [-3])
                self.assertEqual(last(2, call), [-3])
                self.assert_answered(last(3, call))

    def test_no_units(self):
        for call in self.calls_with(1) + self.calls_with(11):
            with self.subTest(call):
                self.assertEqual(last(0, call), [-3])

    def test_twelve_units_and_no_more(self):
        self.assertEqual(ask(11, UNIT, UNIT, UNIT, year_range(11)), [[11], [-9], [-9], [0, -5000, 2100]])

    def calls_with(self, unit):
        return (
            above(unit, 0), above(0, unit), same(unit, 0), same(0, unit), find(unit, 1, 2), date(unit, 1, 2),
            is_earlier(unit, 0), is_earlier(0, unit), is_earlier(unit, unit), year_range(unit), stratum(unit),
            position_range(unit), same_year(unit, 0), same_year(0, unit), same_year(unit, unit), explain(unit, 0),
            explain(0, unit), explain(unit, unit),
        )

    def assert_answered(self, answer):
        """The call is not refused, or it is an explanation of what is not certain."""
        if answer != [-4]:
            self.assertGreaterEqual(answer[0], 0)


class EqualUnitsTest(unittest.TestCase):

    def test_equal_units_of_above_and_same(self):
        for add in (above, same):
            for unit in (0, 1, 11, 12, FAR):
                with self.subTest(add=add, unit=unit):
                    self.assertEqual(last(2, add(unit, unit)), [-1])

    def test_equal_units_before_missing_units(self):
        self.assertEqual(ask(0, above(5, 5), same(5, 5)), [[-1], [-1]])


class YearTest(unittest.TestCase):

    def test_the_ends_of_the_years(self):
        for add in (find, date):
            with self.subTest(add):
                self.assertEqual(
                    ask(1, add(0, -5000, 2100), add(0, -5000, -5000), retract(2), add(0, 2100, 2100)),
                    [[1], [2], [0], [3]],
                )

    def test_beyond_the_ends_of_the_years(self):
        for add in (find, date):
            for year in FAR_YEARS:
                with self.subTest(add=add, year=year):
                    self.assertEqual(last(1, add(0, year, year)), [-1])
                    self.assertEqual(last(1, add(0, min(year, 0), max(year, 0))), [-1])
                    self.assertEqual(last(1, add(0, max(year, 0), min(year, 0))), [-1])

    def test_a_first_year_greater_than_the_second(self):
        for add in (find, date):
            with self.subTest(add):
                self.assertEqual(
                    ask(1, add(0, 6, 5), add(0, 2100, -5000), add(0, -1, -2), add(0, 5, 5), add(0, 5, 6)),
                    [[-1], [-1], [-1], [1], [2]],
                )


class FactIdTest(unittest.TestCase):

    def test_fact_ids_out_of_range(self):
        for call in (retract, find_year_range):
            for fact_id in (0, 41, 42, FAR):
                with self.subTest(call=call, fact_id=fact_id):
                    self.assertEqual(last(1, call(fact_id)), [-1])

    def test_fact_ids_that_were_never_accepted(self):
        for call in (retract, find_year_range):
            with self.subTest(call):
                self.assertEqual(ask(1, call(1), call(2), call(40)), [[-3], [-3], [-3]])
                self.assertEqual(ask(1, find(0, 1, 2), call(2), call(40), call(1))[1:3], [[-3], [-3]])

    def test_the_id_of_a_refused_fact_was_never_accepted(self):
        self.assertEqual(
            ask(2, above(1, 0), above(0, 1), retract(2), find_year_range(2)),
            [[1], [-4, 1, 1], [-3], [-3]],
        )

    def test_retracted_facts(self):
        self.assertEqual(
            ask(1, find(0, 1, 2), retract(1), retract(1), find_year_range(1)),
            [[1], [0], [-8], [-8]],
        )

    def test_facts_that_are_not_find_facts(self):
        facts = (above(1, 0), same(1, 0), date(0, 1, 2))
        for fact in facts:
            with self.subTest(fact):
                self.assertEqual(ask(2, fact, find_year_range(1)), [[1], [-4]])

    def test_a_retracted_fact_before_one_that_is_not_a_find_fact(self):
        self.assertEqual(last(1, date(0, 1, 2), retract(1), find_year_range(1)), [-8])

    def test_fact_forty(self):
        facts = [find(0, year, 100) for year in range(1, 41)]
        self.assertEqual(
            ask(1, *facts, find_year_range(40), find_year_range(39), retract(40), retract(40), find_year_range(40))[40:],
            [[0, 40, 100], [0, 39, 100], [0], [-8], [-8]],
        )


class FortyFactsTest(unittest.TestCase):

    def test_forty_facts_and_no_more(self):
        facts = [find(0, year, 50) for year in range(40)]
        given = ask(2, *facts, find(0, 1, 2), date(0, 1, 60), above(1, 0), same(1, 0), year_range(0))
        self.assertEqual(given[:40], [[fact_id] for fact_id in range(1, 41)])
        self.assertEqual(given[40], [-9])
        self.assertEqual(given[42:], [[-9], [-9], [0, 39, 2100]])

    def test_each_kind_of_fact_finds_no_room(self):
        facts = [above(1, 0)] * 40
        for call in (above(1, 0), same(0, 2), find(0, 1, 2), date(0, 1, 2)):
            with self.subTest(call):
                self.assertEqual(last(3, *facts[1:], call), [40])
                self.assertEqual(last(3, *facts, call), [-9])

    def test_retracted_facts_count(self):
        facts = [above(1, 0)] * 38
        given = ask(
            2, *facts, retract(1), retract(38), above(1, 0), retract(39), above(1, 0), retract(2), above(1, 0), retract(3),
            above(1, 0), above(0, 1),
        )
        self.assertEqual(given[38:], [[0], [0], [39], [0], [40], [0], [-9], [0], [-9], [-4, 1, 4]])

    def test_nearly_half_of_forty_retracted(self):
        given = ask(1, *[find(0, 1, 1)] * 40, *[retract(fact_id) for fact_id in range(1, 19)], date(0, 2, 2))
        self.assertEqual(given[40:], [[0]] * 18 + [[-9]])

    def test_refused_facts_do_not_count(self):
        given = ask(3, *[above(1, 0)] * 39, *[above(0, 1)] * 5, *[above(9, 0)] * 5, above(2, 0), above(2, 1))
        self.assertEqual(given[-2:], [[40], [-9]])


class NoUnitsTest(unittest.TestCase):
    """The questions about strata where there are none."""

    def test_questions_about_all_strata(self):
        self.assertEqual(
            ask(0, HARRIS_MATRIX, FIRST_SEQUENCE, COUNT_SEQUENCES, BEST_QUESTION, LIST_FACTS),
            [[0, 0], [0, 0], [0, 1], [-4], [0, 0]],
        )

    def test_questions_about_units(self):
        self.assertEqual(
            ask(0, stratum(0), position_range(0), same_year(0, 0), same_year(0, 1), explain(0, 0), explain(0, 1)),
            [[-3]] * 6,
        )
        self.assertEqual(
            ask(0, stratum(12), position_range(12), same_year(0, 12), same_year(12, 0), explain(0, 12), explain(12, 0)),
            [[-1]] * 6,
        )


class OrderTest(unittest.TestCase):
    """Of several errors the first one of the table is told."""

    def test_range_before_missing(self):
        calls = (
            above(12, 5), above(5, 12), same(12, 5), same(5, 12), find(5, 3, 2), find(5, 1, 2101), find(5, -5001, 2),
            date(5, 3, 2), date(5, 1, 2101), date(5, -5001, 2), is_earlier(12, 5), is_earlier(5, 12), same_year(12, 5),
            same_year(5, 12), explain(12, 5), explain(5, 12),
        )
        for call in calls:
            with self.subTest(call):
                self.assertEqual(last(1, call), [-1])

    def test_range_and_missing_before_what_is_not_earlier(self):
        facts = (above(1, 0),)
        self.assertEqual(
            ask(2, *facts, explain(12, 12), explain(1, 12), explain(FAR, 0), explain(2, 2), explain(1, 2),
                explain(2, 0), explain(1, 1), explain(1, 0), explain(0, 1))[1:],
            [[-1], [-1], [-1], [-3], [-3], [-3], [-4], [-4], [0, 1, 1]],
        )

    def test_range_and_missing_before_contradiction(self):
        self.assertEqual(
            ask(2, date(0, 5, 5), date(0, 9, 8), find(0, 9, 8), date(0, 9, 2101), find(0, 9, 2101), date(2, 9, 9)),
            [[1], [-1], [-1], [-1], [-1], [-3]],
        )

    def test_range_and_missing_before_full(self):
        facts = [above(1, 0)] * 40
        for call, code in (
            (above(0, 0), -1), (same(1, 1), -1), (find(0, 2, 1), -1), (date(12, 1, 1), -1), (date(0, 1, 2101), -1),
            (above(2, 0), -3), (same(0, 2), -3), (find(2, 1, 1), -3), (date(2, 1, 1), -3),
        ):
            with self.subTest(call):
                self.assertEqual(last(2, *facts, call), [code])

    def test_contradiction_before_full(self):
        facts = [date(0, 5, 6), above(1, 0)] + [above(2, 1)] * 38
        for call, answer in (
            (above(0, 1), [-4, 1, 2]), (same(0, 1), [-4, 1, 2]), (find(0, 7, 7), [-4, 1, 1]), (date(0, 1, 4), [-4, 1, 1]),
        ):
            with self.subTest(call):
                self.assertEqual(last(3, *facts, call), answer)


if __name__ == "__main__":
    unittest.main()
