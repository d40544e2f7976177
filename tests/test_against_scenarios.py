"""The answers against the scenarios of small excavations, written out one by one.

The scenarios are those of the document's definition, with the years that
facts name, the ends of all years, and years between them.
"""

import itertools
import unittest

from tests.helper import above, ask, date, find, find_year_range, is_earlier, retract, same, year_range

YEARS = (-5000, 0, 5, 10, 15, 20, 25, 30, 2100)
NAMED_YEARS = (-5000, 0, 10, 20, 30, 2100)
ABOVE, SAME, FIND, DATE = 2, 3, 4, 5


def scenarios(units):
    """All scenarios of so many units: pairs of the moments and the years of the units."""
    every = []
    for moments in itertools.product(range(units), repeat=units):
        count = len(set(moments))
        if set(moments) != set(range(count)):
            continue
        for years in itertools.combinations_with_replacement(YEARS, count):
            every.append((moments, tuple(years[moment] for moment in moments)))
    return every


def agrees(scenario, fact):
    """Whether a scenario can be one of the fact, which stands as in a call."""
    moments, years = scenario
    kind, first, second = fact[:3]
    if kind == ABOVE:
        return moments[second] < moments[first]
    if kind == SAME:
        return moments[first] == moments[second]
    if kind == DATE:
        return second <= years[first] <= fact[3]
    return bool(made_years(scenario, fact))


def made_years(scenario, fact):
    """The manufacturing years of the object of a find fact."""
    return [year for year in YEARS if fact[2] <= year <= fact[3] and year <= scenario[1][fact[1]]]


def steps(facts, unit):
    """The steps of chains from a unit: tuples of end, ids and whether strict."""
    for number, fact in facts.items():
        if fact[0] == ABOVE and fact[2] == unit:
            yield fact[1], (number,), True
        if fact[0] == SAME and unit in fact[1:]:
            yield fact[1] + fact[2] - unit, (number,), False
        if fact[0] == DATE and fact[1] == unit:
            for other, later in facts.items():
                if later[0] in (FIND, DATE) and fact[3] < later[2]:
                    yield later[1], (number, other), True


def chains(facts, start, most):
    """All chains from a unit with at most so many ids: tuples of end, ids and whether strict."""
    found = []
    rest = [(start, (), False)]
    while rest:
        unit, ids, strict = rest.pop()
        found.append((unit, ids, strict))
        for end, more, is_strict in steps(facts, unit):
            if len(ids) + len(more) <= most:
                rest.append((end, ids + more, strict or is_strict))
    return found


def lists_against(facts, fact, most):
    """The lists with at most so many ids among which the explanation of a contradiction is."""
    kind, first, second = fact[:3]
    if kind == ABOVE:
        return [ids for end, ids, strict in chains(facts, first, most) if end == second]
    if kind == SAME:
        both = [(first, second), (second, first)]
        return [ids for a, b in both for end, ids, strict in chains(facts, a, most) if end == b and strict]
    lists = []
    for end, ids, strict in chains(facts, first, most - 1):
        lists += [ids + (n,) for n, f in facts.items() if f[0] == DATE and f[1] == end and f[3] < second]
    if kind == DATE:
        for number, other in facts.items():
            if other[0] in (FIND, DATE) and other[2] > fact[3]:
                lists += [(number,) + ids for end, ids, s in chains(facts, other[1], most - 1) if end == first]
    return lists


def preferred_against(facts, fact, units):
    """The preferred explanation of a contradiction."""
    for most in range(1, 2 * units + 2):
        lists = lists_against(facts, fact, most)
        if lists:
            return list(min(lists))
    return None


class Numbers:
    """Numbers that look like chance and are the same each time."""

    def __init__(self, seed):
        self.state = seed

    def below(self, count):
        self.state = (self.state * 6364136223846793005 + 1442695040888963407) % 2 ** 64
        return (self.state >> 33) % count

    def one_of(self, things):
        return things[self.below(len(things))]


def some_fact(numbers, units):
    """A fact about some of the units."""
    first = numbers.below(units)
    second = (first + 1 + numbers.below(units - 1)) % units
    years = sorted([numbers.one_of(NAMED_YEARS), numbers.one_of(NAMED_YEARS)])
    if years[0] == -5000 and numbers.below(2):
        years[0] = min(years[1], 10)
    make = numbers.one_of((above, above, same, find, date, date))
    return make(first, second) if make in (above, same) else make(first, *years)


class ScenarioTest(unittest.TestCase):

    def test_two_units(self):
        self.compare(2, 40)

    def test_three_units(self):
        self.compare(3, 60)

    def test_four_units(self):
        self.compare(4, 12)

    def compare(self, units, sessions):
        every = scenarios(units)
        for seed in range(sessions):
            with self.subTest(units=units, seed=seed):
                self.compare_session(units, every, Numbers(seed * 7919 + units))

    def compare_session(self, units, every, numbers):
        calls, facts, accepted = [], {}, 0
        for turn in range(14):
            fact = some_fact(numbers, units)
            calls.append(fact)
            answer = ask(units, *calls)[-1]
            if self.left(every, list(facts.values()) + [fact]):
                accepted += 1
                self.assertEqual(answer, [accepted])
                facts[accepted] = fact
            else:
                self.check_explanation(units, every, facts, fact, answer)
            if facts and numbers.below(4) == 0:
                number = numbers.one_of(sorted(facts))
                calls.append(retract(number))
                del facts[number]
        self.check_questions(units, every, calls, facts)

    def left(self, every, facts):
        """The scenarios that agree with the facts."""
        for fact in facts:
            every = [scenario for scenario in every if agrees(scenario, fact)]
        return every

    def check_explanation(self, units, every, facts, fact, answer):
        ids = answer[2:]
        self.assertEqual(answer[:2], [-4, len(ids)])
        self.assertEqual(ids, preferred_against(facts, fact, units))
        self.assertEqual(len(set(ids)), len(ids))
        against = self.left(every, [fact])
        self.assertEqual(self.left(against, [facts[number] for number in ids]), [])
        for fewer in itertools.combinations(facts.values(), len(ids) - 1):
            self.assertTrue(self.left(against, fewer))

    def check_questions(self, units, every, calls, facts):
        possible = self.left(every, facts.values())
        pairs = list(itertools.product(range(units), repeat=2))
        finds = [number for number in facts if facts[number][0] == FIND]
        asked = ([is_earlier(a, b) for a, b in pairs] + [year_range(unit) for unit in range(units)]
                 + [find_year_range(number) for number in finds])
        due = [[0, self.held([m[a] < m[b] for m, years in possible])] for a, b in pairs]
        due += [self.span(years[unit] for m, years in possible) for unit in range(units)]
        for number in finds:
            due.append(self.span(year for scenario in possible for year in made_years(scenario, facts[number])))
        self.assertEqual(ask(units, *calls, *asked)[len(calls):], due)

    def held(self, cases):
        """The three-valued answer."""
        return 1 if all(cases) else 2 if any(cases) else 0

    def span(self, years):
        """The answer of a range of years, each of which is among the years given."""
        years = set(years)
        self.assertEqual(years, {year for year in YEARS if min(years) <= year <= max(years)})
        return [0, min(years), max(years)]


if __name__ == "__main__":
    unittest.main()
