"""One unit and twelve units, with no facts, with a full order, and with the calls that are dearest to answer."""

import time
import unittest

from tests.helper import (
    BEST_QUESTION, COUNT_SEQUENCES, FIRST_SEQUENCE, HARRIS_MATRIX, LIST_FACTS, above, ask, date, explain, find, last,
    position_range, same_year, stratum, year_range,
)

ALL = range(12)
CHAIN = [above(unit + 1, unit) for unit in range(11)]
YEARS = [date(unit, unit, unit) for unit in ALL]
SECONDS = 15


class OneUnitTest(unittest.TestCase):

    def test_questions_about_all_strata(self):
        self.assertEqual(
            ask(1, HARRIS_MATRIX, FIRST_SEQUENCE, COUNT_SEQUENCES, BEST_QUESTION, LIST_FACTS),
            [[0, 0], [0, 1, 0], [0, 1], [-4], [0, 0]],
        )

    def test_questions_about_the_unit(self):
        self.assertEqual(
            ask(1, stratum(0), position_range(0), same_year(0, 0), explain(0, 0)), [[0, 0], [0, 0, 0], [0, 1], [-4]],
        )

    def test_questions_about_other_units(self):
        for unit, code in ((1, -3), (11, -3), (12, -1)):
            with self.subTest(unit):
                self.assertEqual(
                    ask(1, stratum(unit), position_range(unit), same_year(0, unit), explain(unit, 0)), [[code]] * 4,
                )


class NoFactsTest(unittest.TestCase):

    def test_questions_about_all_strata(self):
        self.assertEqual(
            ask(12, HARRIS_MATRIX, FIRST_SEQUENCE, COUNT_SEQUENCES, BEST_QUESTION, LIST_FACTS),
            [[0, 0], [0, 12, *ALL], [0, 479001600], [0, 0, 1, 65], [0, 0]],
        )

    def test_questions_about_units(self):
        self.assertEqual(ask(12, *[stratum(unit) for unit in ALL]), [[0, unit] for unit in ALL])
        self.assertEqual(ask(12, *[position_range(unit) for unit in ALL]), [[0, 0, 11]] * 12)
        self.assertEqual(ask(12, same_year(0, 11), same_year(11, 11), explain(0, 11)), [[0, 2], [0, 1], [-4]])


class FullOrderTest(unittest.TestCase):

    def test_above_facts(self):
        self.check_full_order(CHAIN)
        self.assertEqual(last(12, *CHAIN, explain(0, 11)), [0, 11, *range(1, 12)])
        self.assertEqual(last(12, *CHAIN, same_year(0, 11)), [0, 2])

    def test_years(self):
        self.check_full_order(YEARS)
        self.assertEqual(last(12, *YEARS, explain(0, 11)), [0, 2, 1, 12])
        self.assertEqual(last(12, *YEARS, same_year(0, 11)), [0, 0])

    def test_both_together(self):
        facts = [date(unit, unit, unit) for unit in range(6)] + CHAIN[5:]
        self.check_full_order(facts)
        self.assertEqual(last(12, *facts, explain(0, 11)), [0, 8, 1, 6, 7, 8, 9, 10, 11, 12])

    def check_full_order(self, facts):
        pairs = [number for unit in range(11) for number in (unit, unit + 1)]
        self.assertEqual(
            ask(12, *facts, HARRIS_MATRIX, FIRST_SEQUENCE, COUNT_SEQUENCES, BEST_QUESTION)[len(facts):],
            [[0, 11, *pairs], [0, 12, *ALL], [0, 1], [-4]],
        )
        given = ask(12, *facts, *[position_range(unit) for unit in ALL], *[stratum(unit) for unit in ALL])[len(facts):]
        self.assertEqual(given, [[0, unit, unit] for unit in ALL] + [[0, unit] for unit in ALL])
        self.assertEqual(last(12, *facts, LIST_FACTS)[1], len(facts))


class DearestTest(unittest.TestCase):
    """Sixty calls in one list are answered within some seconds."""

    def within_seconds(self, facts, questions):
        """The answers of the questions, over and over for as long as calls have room."""
        asked = (questions * 48)[:48 - len(facts)]
        start = time.process_time()
        given = ask(12, *facts, *asked)[len(facts):]
        self.assertLess(time.process_time() - start, SECONDS)
        for place, answer in enumerate(given):
            self.assertEqual(answer, given[place % len(questions)])
        return given

    def test_no_facts(self):
        given = self.within_seconds([], [COUNT_SEQUENCES, BEST_QUESTION])
        self.assertEqual(given[:2], [[0, 479001600], [0, 0, 1, 65]])

    def test_one_call_over_and_over(self):
        for question in (COUNT_SEQUENCES, BEST_QUESTION, HARRIS_MATRIX, FIRST_SEQUENCE, position_range(11)):
            with self.subTest(question):
                self.within_seconds([above(11, 0)], [question])

    def test_few_facts(self):
        facts = [above(1, 0), date(2, 0, 10), find(3, 11, 12)]
        given = self.within_seconds(facts, [COUNT_SEQUENCES, BEST_QUESTION, HARRIS_MATRIX])
        self.assertEqual([given[0], given[2]], [[0, 479001600 // 4], [0, 2, 0, 1, 2, 3]])

    def test_many_facts_of_years(self):
        # Twelve units of twelve years each, of which each meets some of the next ones.
        facts = [date(unit, 4 * unit, 4 * unit + 11) for unit in ALL] + [find(unit, 4 * unit, 100) for unit in ALL]
        facts += [date(unit, 4 * unit - 3, 4 * unit + 12) for unit in ALL]
        given = self.within_seconds(facts, [COUNT_SEQUENCES, BEST_QUESTION, same_year(0, 11), position_range(5)])
        self.assertEqual(given[2:4], [[0, 0], [0, 3, 7]])

    def test_many_above_facts(self):
        facts = [above(upper, lower) for lower in range(5) for upper in range(5, 12)]
        given = self.within_seconds(facts, [COUNT_SEQUENCES, BEST_QUESTION, HARRIS_MATRIX])
        self.assertEqual(given[0], [0, 120 * 5040])
        self.assertEqual(given[2][:2], [0, 35])

    def test_forty_facts(self):
        facts = [date(unit % 12, unit // 6, 60 + unit) for unit in range(40)]
        self.within_seconds(facts, [BEST_QUESTION, COUNT_SEQUENCES, year_range(0), same_year(0, 1)])


if __name__ == "__main__":
    unittest.main()
