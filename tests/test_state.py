"""What changes the state of a session, and what leaves it as it is."""

import itertools
import unittest

from tests.helper import (
    BEST_QUESTION, COUNT_SEQUENCES, FIRST_SEQUENCE, HARRIS_MATRIX, LIST_FACTS, UNIT, above, ask, behind, date, explain,
    find, find_year_range, is_earlier, last, position_range, retract, same, same_year, stratum, year_range,
)

FACTS = (above(1, 0), same(1, 2), date(2, 10, 40), find(0, 15, 90), date(3, 41, 60))
REFUSED = (
    above(0, 2), above(1, 3), same(0, 1), same(3, 2), find(0, 41, 50), find(3, 61, 61), date(1, 0, 14), date(0, 41, 50),
    date(3, 0, 40), above(0, 0), same(12, 0), find(0, 2, 1), date(0, -5001, 2), above(0, 4), same(4, 0), find(4, 1, 1),
    date(4, 1, 1), retract(0), retract(6), is_earlier(0, 4), year_range(12), find_year_range(1), find_year_range(41),
    stratum(4), position_range(12), same_year(0, 4), explain(1, 0), explain(1, 2), explain(4, 0), explain(12, 4),
)
QUERIES = (
    is_earlier(0, 1), is_earlier(1, 0), is_earlier(1, 2), is_earlier(0, 3), year_range(0), year_range(1), year_range(2),
    year_range(3), find_year_range(4), find_year_range(3), stratum(2), position_range(2), HARRIS_MATRIX, FIRST_SEQUENCE,
    COUNT_SEQUENCES, same_year(0, 1), same_year(0, 3), explain(0, 3), explain(3, 0), BEST_QUESTION, LIST_FACTS,
)


def questions(units):
    """Every question whose answer depends on the active facts alone, but not on their ids."""
    asked = [HARRIS_MATRIX, FIRST_SEQUENCE, COUNT_SEQUENCES, BEST_QUESTION]
    for a, b in itertools.permutations(range(units), 2):
        asked += [is_earlier(a, b), same_year(a, b)]
    for unit in range(units):
        asked += [stratum(unit), position_range(unit), year_range(unit)]
    return asked


class FailedCallTest(unittest.TestCase):

    def test_a_refused_call_changes_nothing(self):
        self.assertEqual([answer[0] < 0 for answer in ask(4, *FACTS, *REFUSED)[5:]], [True] * len(REFUSED))
        due = ask(4, *FACTS, *questions(4), find_year_range(4), LIST_FACTS, find(2, 1, 7))[5:]
        self.assertEqual(due[-1], [6])
        for call in REFUSED:
            with self.subTest(call):
                given = ask(4, *FACTS, call, call, *questions(4), find_year_range(4), LIST_FACTS, find(2, 1, 7))[7:]
                self.assertEqual(given, due)

    def test_a_refused_fact_can_be_added_when_nothing_contradicts(self):
        self.assertEqual(
            ask(2, above(1, 0), above(0, 1), retract(1), above(0, 1), is_earlier(1, 0)),
            [[1], [-4, 1, 1], [0], [2], [0, 1]],
        )

    def test_a_refused_retraction_keeps_the_fact(self):
        self.assertEqual(
            ask(2, above(1, 0), retract(2), retract(41), retract(0), is_earlier(0, 1)),
            [[1], [-3], [-1], [-1], [0, 1]],
        )

    def test_a_refused_unit_keeps_the_units(self):
        self.assertEqual(ask(12, above(11, 10), UNIT, is_earlier(10, 11), is_earlier(12, 0)), [[1], [-9], [0, 1], [-1]])


class QueryTest(unittest.TestCase):

    def test_queries_change_nothing(self):
        due = ask(4, *FACTS, *REFUSED[:5], UNIT, above(4, 0))[5:]
        for query in QUERIES:
            with self.subTest(query):
                self.assertEqual(ask(4, *FACTS, query, query, *REFUSED[:5], UNIT, above(4, 0))[7:], due)

    def test_a_question_asked_again_is_answered_alike(self):
        given = ask(4, *FACTS, *QUERIES, *reversed(QUERIES))[5:]
        self.assertEqual(given, given[::-1])


class OrderTest(unittest.TestCase):
    """Four units in a full order, and unit 4 beside them."""

    def setUp(self):
        self.due = self.all_answers(FACTS)

    def all_answers(self, calls):
        return behind(5, calls, questions(5))

    def test_the_answers_that_are_due(self):
        self.assertEqual(self.due[:4], [[0, 2, 0, 1, 1, 3], [0, 4, 0, 1, 3, 4], [0, 4], [0, 1, 4, 1]])
        self.assertEqual(
            self.due[-15:],
            [[0, 0], [0, 0, 1], [0, 15, 40], [0, 1], [0, 1, 2], [0, 15, 40], [0, 1], [0, 1, 2], [0, 15, 40],
             [0, 3], [0, 2, 3], [0, 41, 60], [0, 4], [0, 0, 3], [0, -5000, 2100]],
        )

    def test_facts_in_any_order(self):
        for facts in itertools.permutations(FACTS):
            with self.subTest(facts):
                self.assertEqual(self.all_answers(facts), self.due)

    def test_retracted_facts_between(self):
        others = (
            date(0, 16, 17), above(3, 0), find(1, 39, 39), same(0, 1), date(3, 50, 50), above(4, 2), same(4, 3),
            above(0, 4), date(4, 0, 1),
        )
        for other in others:
            for place in range(6):
                with self.subTest(other=other, place=place):
                    facts = list(FACTS[:place]) + [other]
                    if ask(5, *facts)[-1][0] < 0:
                        continue
                    calls = facts + [retract(place + 1)] + list(FACTS[place:])
                    self.assertEqual(self.all_answers(calls), self.due)

    def test_units_between_facts(self):
        due = ask(4, *FACTS, *questions(4)[:40])[5:]
        given = ask(3, *FACTS[:4], UNIT, FACTS[4], *questions(4)[:40])[6:]
        self.assertEqual(given, due)

    def test_a_fact_retracted_and_added_again(self):
        for place, fact in enumerate(FACTS):
            with self.subTest(fact):
                self.assertEqual(self.all_answers([*FACTS, retract(place + 1), fact]), self.due)

    def test_equal_facts_stand_for_one_another(self):
        for place, fact in enumerate(FACTS):
            with self.subTest(fact):
                self.assertEqual(self.all_answers([*FACTS, fact, retract(place + 1)]), self.due)

    def test_an_explanation_tells_the_ids_as_they_were_given(self):
        self.assertEqual(last(3, above(2, 1), above(1, 0), above(0, 2)), [-4, 2, 2, 1])
        self.assertEqual(last(3, above(1, 0), above(2, 1), above(0, 2)), [-4, 2, 1, 2])


if __name__ == "__main__":
    unittest.main()
