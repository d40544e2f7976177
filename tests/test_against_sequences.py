"""The answers about strata against all sequences of excavations of up to seven units, written out one by one.

A sequence is written out here as a list of strata to which a scenario can be told: each stratum takes the
earliest year that it and those before it allow.
"""

import itertools
import unittest

from tests.helper import (
    BEST_QUESTION, COUNT_SEQUENCES, FIRST_SEQUENCE, HARRIS_MATRIX, LIST_FACTS, Numbers, above, ask, behind, date, find,
    is_earlier, position_range, retract, same, stratum,
)

ABOVE, SAME, FIND, DATE = 2, 3, 4, 5
ORDERS = (above, above, above, same)
YEARS = (date, date, find)
MANY = 1000000


def lowest_units(units, facts):
    """The lowest-numbered unit of each unit's stratum."""
    lowest = list(range(units))
    for fact in facts:
        if fact[0] == SAME:
            ends = sorted([lowest[fact[1]], lowest[fact[2]]])
            lowest = [ends[0] if unit == ends[1] else unit for unit in lowest]
    return lowest


def can_follow(sequence, lowest, facts):
    """Whether a scenario has the strata in this order."""
    for fact in facts:
        if fact[0] == ABOVE and sequence.index(lowest[fact[2]]) >= sequence.index(lowest[fact[1]]):
            return False
    year = -MANY
    for place in sequence:
        own = [fact for fact in facts if fact[0] in (FIND, DATE) and lowest[fact[1]] == place]
        year = max([year] + [fact[2] for fact in own])
        if year > min([MANY] + [fact[3] for fact in own if fact[0] == DATE]):
            return False
    return True


def all_sequences(units, facts):
    """All sequences, the lexicographically smallest first."""
    lowest = lowest_units(units, facts)
    return [each for each in itertools.permutations(sorted(set(lowest))) if can_follow(each, lowest, facts)]


def orders(sequences):
    """The pairs of strata in each order that some sequence has."""
    return {pair for sequence in sequences for pair in itertools.combinations(sequence, 2)}


def undetermined(sequences):
    """The pairs of strata, the smaller number first, that stand in either order."""
    found = orders(sequences)
    return [(a, b) for a, b in sorted(found) if a < b and (b, a) in found]


def with_order(sequences, a, b):
    """The sequences in which one stratum stands before the other."""
    return [sequence for sequence in sequences if sequence.index(a) < sequence.index(b)]


def best_question(sequences):
    """The answer of best_question."""
    questions = []
    for a, b in undetermined(sequences):
        left = [len(undetermined(with_order(sequences, *pair))) for pair in ((a, b), (b, a))]
        questions.append([max(left), a, b])
    if not questions:
        return [-4]
    worst, a, b = min(questions)
    return [0, a, b, worst]


def some_facts(numbers, units, count, kinds):
    """Calls that record facts of the kinds told; the narrow years of dates order many strata."""
    facts = []
    for turn in range(count):
        make = numbers.one_of(kinds)
        first = numbers.below(units)
        second = (first + 1 + numbers.below(units - 1)) % units
        year = numbers.below(60) - 30
        facts.append(make(first, second) if make in (above, same) else make(first, year, year + numbers.below(20)))
    return facts


def accepted(units, calls):
    """The facts that are accepted, in their order."""
    return [call for call, answer in zip(calls, ask(units, *calls)) if answer[0] > 0]


class SequenceTest(unittest.TestCase):

    def test_above_and_same_facts(self):
        self.compare(ORDERS, (2, 4, 6, 9))

    def test_dates_and_finds_alone(self):
        self.compare(YEARS, (2, 4, 6, 9))

    def test_all_kinds_of_facts(self):
        self.compare(ORDERS + YEARS, (3, 5, 8, 12))

    def test_seven_units(self):
        for seed in range(3):
            with self.subTest(seed):
                facts = some_facts(Numbers(seed + 50), 7, 7, ORDERS + YEARS)
                self.compare_session(7, accepted(7, facts))

    def compare(self, kinds, counts):
        for units, count, seed in itertools.product((5, 6), counts, range(4)):
            with self.subTest(units=units, count=count, seed=seed):
                numbers = Numbers(seed * 104729 + units * 64 + count)
                facts = accepted(units, some_facts(numbers, units, count, kinds))
                self.compare_session(units, facts)
                self.compare_in_another_order(units, facts, numbers)

    def compare_session(self, units, facts):
        sequences = all_sequences(units, facts)
        self.assertTrue(sequences)
        lowest = lowest_units(units, facts)
        found = orders(sequences)
        earlier = [(a, b) for a, b in sorted(found) if (b, a) not in found]
        nearest = [
            (a, b) for a, b in earlier if not any((a, c) in earlier and (c, b) in earlier for c in range(units))
        ]
        due = [
            (HARRIS_MATRIX, [0, len(nearest), *itertools.chain(*nearest)]),
            (FIRST_SEQUENCE, [0, len(sequences[0]), *sequences[0]]),
            (COUNT_SEQUENCES, [0, len(sequences)]),
            (BEST_QUESTION, best_question(sequences)),
        ]
        for unit in range(units):
            positions = {sequence.index(lowest[unit]) for sequence in sequences}
            self.assertEqual(positions, set(range(min(positions), max(positions) + 1)))
            due.append((stratum(unit), [0, lowest[unit]]))
            due.append((position_range(unit), [0, min(positions), max(positions)]))
        questions = [question for question, answer in due]
        self.assertEqual(list(zip(questions, behind(units, facts, questions))), due)
        self.compare_questions(units, facts, sequences)

    def compare_questions(self, units, facts, sequences):
        """The two numbers of sequences of an undetermined pair, and what stays undetermined behind each."""
        for a, b in undetermined(sequences):
            left = [with_order(sequences, a, b), with_order(sequences, b, a)]
            given = [ask(units, *facts, fact, COUNT_SEQUENCES)[-1] for fact in (above(b, a), above(a, b))]
            self.assertEqual(given, [[0, len(left[0])], [0, len(left[1])]])
            self.assertEqual(len(left[0]) + len(left[1]), len(sequences))
        answer = ask(units, *facts, BEST_QUESTION)[-1]
        if answer != [-4]:
            a, b, worst = answer[1:]
            counts = [self.count_undetermined(units, facts + [fact]) for fact in (above(b, a), above(a, b))]
            self.assertEqual(max(counts), worst)

    def count_undetermined(self, units, facts):
        """How many pairs of strata `is_earlier` leaves undetermined."""
        strata = sorted(set(lowest_units(units, facts)))
        pairs = itertools.combinations(strata, 2)
        return behind(units, facts, [is_earlier(a, b) for a, b in pairs]).count([0, 2])

    def compare_in_another_order(self, units, facts, numbers):
        """The same active facts behind one another in another order, with a retracted one between."""
        questions = [HARRIS_MATRIX, FIRST_SEQUENCE, COUNT_SEQUENCES, BEST_QUESTION]
        questions += [position_range(unit) for unit in range(units)]
        due = behind(units, facts, questions)
        others = list(facts)
        calls = []
        while others:
            calls.append(others.pop(numbers.below(len(others))))
        middle = len(calls) // 2
        between = some_facts(numbers, units, 1, ORDERS)[0]
        if ask(units, *calls[:middle], between)[-1][0] > 0:
            calls[middle:middle] = [between, retract(middle + 1)]
        self.assertEqual(behind(units, calls, questions), due)
        self.assertEqual(ask(units, *calls, LIST_FACTS)[-1][1], len(facts))


if __name__ == "__main__":
    unittest.main()
