"""The answers against the scenarios of small excavations, written out one by one.

The scenarios are those of the document's definition, with the years that
facts name, the ends of all years, and years between them.
"""

import itertools
import unittest

from tests.helper import (
    BEST_QUESTION, COUNT_SEQUENCES, FIRST_SEQUENCE, HARRIS_MATRIX, LIST_FACTS, Numbers, ask, behind, explain,
    find_year_range, is_earlier, position_range, retract, same_year, some_fact, stratum, year_range,
)

YEARS = (-5000, 0, 5, 10, 15, 20, 25, 30, 2100)
ABOVE, SAME, FIND, DATE = 2, 3, 4, 5


def scenarios(units):
    """All scenarios of so many units: pairs of the moments and the years of the units."""
    every = []
    for moments in itertools.product(range(units), repeat=units):
        count = len(set(moments))
        if set(moments) != set(range(count)):
            continue
        for years in itertools.combinations_with_replacement(YEARS, count):
            every.append((moments, tuple(years[moment] for moment in moments)))
    return every


def agrees(scenario, fact):
    """Whether a scenario can be one of the fact, which stands as in a call."""
    moments, years = scenario
    kind, first, second = fact[:3]
    if kind == ABOVE:
        return moments[second] < moments[first]
    if kind == SAME:
        return moments[first] == moments[second]
    if kind == DATE:
        return second <= years[first] <= fact[3]
    return bool(made_years(scenario, fact))


def made_years(scenario, fact):
    """The manufacturing years of the object of a find fact."""
    return [year for year in YEARS if fact[2] <= year <= fact[3] and year <= scenario[1][fact[1]]]


def steps(facts, unit):
    """The steps of chains from a unit: tuples of end, ids and whether strict."""
    for number, fact in facts.items():
        if fact[0] == ABOVE and fact[2] == unit:
            yield fact[1], (number,), True
        if fact[0] == SAME and unit in fact[1:]:
            yield fact[1] + fact[2] - unit, (number,), False
        if fact[0] == DATE and fact[1] == unit:
            for other, later in facts.items():
                if later[0] in (FIND, DATE) and fact[3] < later[2]:
                    yield later[1], (number, other), True


def chains(facts, start, most):
    """All chains from a unit with at most so many ids: tuples of end, ids and whether strict."""
    found = []
    rest = [(start, (), False)]
    while rest:
        unit, ids, strict = rest.pop()
        found.append((unit, ids, strict))
        for end, more, is_strict in steps(facts, unit):
            if len(ids) + len(more) <= most:
                rest.append((end, ids + more, strict or is_strict))
    return found


def lists_against(facts, fact, most):
    """The lists with at most so many ids among which the explanation of a contradiction is."""
    kind, first, second = fact[:3]
    if kind == ABOVE:
        return [ids for end, ids, strict in chains(facts, first, most) if end == second]
    if kind == SAME:
        both = [(first, second), (second, first)]
        return [ids for a, b in both for end, ids, strict in chains(facts, a, most) if end == b and strict]
    lists = []
    for end, ids, strict in chains(facts, first, most - 1):
        lists += [ids + (n,) for n, f in facts.items() if f[0] == DATE and f[1] == end and f[3] < second]
    if kind == DATE:
        for number, other in facts.items():
            if other[0] in (FIND, DATE) and other[2] > fact[3]:
                lists += [(number,) + ids for end, ids, s in chains(facts, other[1], most - 1) if end == first]
    return lists


def preferred(lists_of, units):
    """The preferred one of the lists that are told for the most ids that they may have."""
    for most in range(1, 2 * units + 2):
        lists = lists_of(most)
        if lists:
            return list(min(lists))
    return None


def preferred_against(facts, fact, units):
    """The preferred explanation of a contradiction."""
    return preferred(lambda most: lists_against(facts, fact, most), units)


def preferred_strict_chain(facts, a, b, units):
    """The preferred strict chain from one unit to another."""
    return preferred(lambda most: [ids for end, ids, strict in chains(facts, a, most) if end == b and strict], units)


def earlier_pairs(possible, units):
    """The pairs of units of which the first is earlier in all scenarios."""
    pairs = itertools.permutations(units, 2)
    return {(a, b) for a, b in pairs if all(moments[a] < moments[b] for moments, years in possible)}


def undetermined_pairs(possible, strata):
    """The pairs of strata, the smaller number first, of which neither is earlier in all scenarios."""
    earlier = earlier_pairs(possible, strata)
    return [(a, b) for a, b in itertools.combinations(strata, 2) if not earlier & {(a, b), (b, a)}]


def remaining(possible, strata, a, b):
    """How many pairs stay undetermined where the one stratum is earlier than the other."""
    left = [scenario for scenario in possible if scenario[0][a] < scenario[0][b]]
    return len(undetermined_pairs(left, strata))


class ScenarioTest(unittest.TestCase):

    def test_two_units(self):
        self.compare(2, 40)

    def test_three_units(self):
        self.compare(3, 60)

    def test_four_units(self):
        self.compare(4, 12)

    def compare(self, units, sessions):
        every = scenarios(units)
        for seed in range(sessions):
            with self.subTest(units=units, seed=seed):
                self.compare_session(units, every, Numbers(seed * 7919 + units))

    def compare_session(self, units, every, numbers):
        calls, facts, accepted = [], {}, 0
        for turn in range(14):
            if turn in (2, 5, 9):
                self.check_questions(units, every, calls, facts)
            fact = some_fact(numbers, units)
            calls.append(fact)
            answer = ask(units, *calls)[-1]
            if self.left(every, list(facts.values()) + [fact]):
                accepted += 1
                self.assertEqual(answer, [accepted])
                facts[accepted] = fact
            else:
                self.check_explanation(units, every, facts, fact, answer)
            if facts and numbers.below(4) == 0:
                number = numbers.one_of(sorted(facts))
                calls.append(retract(number))
                del facts[number]
        self.check_questions(units, every, calls, facts)

    def left(self, every, facts):
        """The scenarios that agree with the facts."""
        for fact in facts:
            every = [scenario for scenario in every if agrees(scenario, fact)]
        return every

    def check_explanation(self, units, every, facts, fact, answer):
        ids = answer[2:]
        self.assertEqual(answer[:2], [-4, len(ids)])
        self.assertEqual(ids, preferred_against(facts, fact, units))
        self.check_enough(self.left(every, [fact]), facts, ids)

    def check_questions(self, units, every, calls, facts):
        possible = self.left(every, facts.values())
        self.check_units_and_finds(units, possible, calls, facts)
        self.check_strata(units, possible, calls, facts)
        self.check_best_question(units, possible, calls)
        self.check_chains(units, every, possible, calls, facts)

    def check_units_and_finds(self, units, possible, calls, facts):
        due = []
        for a, b in itertools.product(range(units), repeat=2):
            due.append((is_earlier(a, b), self.held([moments[a] < moments[b] for moments, years in possible])))
            due.append((same_year(a, b), self.held([years[a] == years[b] for moments, years in possible])))
        for unit in range(units):
            due.append((year_range(unit), self.span(years[unit] for moments, years in possible)))
        for number, fact in facts.items():
            if fact[0] == FIND:
                made = [year for scenario in possible for year in made_years(scenario, fact)]
                due.append((find_year_range(number), self.span(made)))
        self.check_answers(units, calls, due)

    def check_strata(self, units, possible, calls, facts):
        lowest = [
            min(v for v in range(units) if all(moments[u] == moments[v] for moments, years in possible))
            for u in range(units)
        ]
        strata = sorted(set(lowest))
        earlier = earlier_pairs(possible, strata)
        sequences = [
            sequence for sequence in itertools.permutations(strata)
            if not any((b, a) in earlier for a, b in itertools.combinations(sequence, 2))
        ]
        self.check_realized(possible, sequences)
        nearest = [
            (a, b) for a, b in sorted(earlier) if not any((a, c) in earlier and (c, b) in earlier for c in strata)
        ]
        due = [(stratum(unit), [0, lowest[unit]]) for unit in range(units)]
        for unit in range(units):
            positions = {sequence.index(lowest[unit]) for sequence in sequences}
            self.assertEqual(positions, set(range(min(positions), max(positions) + 1)))
            due.append((position_range(unit), [0, min(positions), max(positions)]))
        due.append((HARRIS_MATRIX, [0, len(nearest), *itertools.chain(*nearest)]))
        due.append((FIRST_SEQUENCE, [0, len(strata), *min(sequences)]))
        due.append((COUNT_SEQUENCES, [0, len(sequences)]))
        rows = [[number, *facts[number], 0][:5] for number in sorted(facts)]
        due.append((LIST_FACTS, [0, len(rows), *itertools.chain(*rows)]))
        self.check_answers(units, calls, due)

    def check_realized(self, possible, sequences):
        """Each sequence is that of the moments of a scenario."""
        for sequence in sequences:
            self.assertTrue(any(
                all(moments[a] < moments[b] for a, b in zip(sequence, sequence[1:])) for moments, years in possible
            ))

    def check_best_question(self, units, possible, calls):
        strata = [
            u for u in range(units)
            if not any(all(moments[u] == moments[v] for moments, years in possible) for v in range(u))
        ]
        questions = [
            (max(remaining(possible, strata, a, b), remaining(possible, strata, b, a)), a, b)
            for a, b in undetermined_pairs(possible, strata)
        ]
        worst, a, b = min(questions, default=(0, 0, 0))
        self.check_answers(units, calls, [(BEST_QUESTION, [0, a, b, worst] if questions else [-4])])

    def check_chains(self, units, every, possible, calls, facts):
        earlier = earlier_pairs(possible, range(units))
        due = []
        for a, b in itertools.product(range(units), repeat=2):
            if (a, b) not in earlier:
                due.append((explain(a, b), [-4]))
                continue
            ids = preferred_strict_chain(facts, a, b, units)
            due.append((explain(a, b), [0, len(ids), *ids]))
            against = [(moments, years) for moments, years in every if moments[a] >= moments[b]]
            self.check_enough(against, facts, ids)
        self.check_answers(units, calls, due)

    def check_enough(self, against, facts, ids):
        """The facts leave none of the scenarios that stand against, and no smaller set of facts does so."""
        self.assertEqual(len(set(ids)), len(ids))
        self.assertEqual(self.left(against, [facts[number] for number in ids]), [])
        for fewer in itertools.combinations(facts.values(), len(ids) - 1):
            self.assertTrue(self.left(against, fewer))

    def check_answers(self, units, calls, due):
        """Each question is answered as it is due."""
        questions = [question for question, answer in due]
        self.assertEqual(list(zip(questions, behind(units, calls, questions))), due)

    def held(self, cases):
        """A three-valued answer."""
        return [0, 1 if all(cases) else 2 if any(cases) else 0]

    def span(self, years):
        """The answer of a range of years, each of which is among the years given."""
        years = set(years)
        self.assertEqual(years, {year for year in YEARS if min(years) <= year <= max(years)})
        return [0, min(years), max(years)]


if __name__ == "__main__":
    unittest.main()
