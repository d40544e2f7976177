"""Calls by their names, and the answers taken apart call by call."""

from strataproofs.excavation import answers

UNIT = [1]
HARRIS_MATRIX = [12]
FIRST_SEQUENCE = [13]
COUNT_SEQUENCES = [14]
BEST_QUESTION = [17]
LIST_FACTS = [18]
MOST_CALLS = 60
MOST_NUMBERS = 300
NAMED_YEARS = (-5000, 0, 10, 20, 30, 2100)


def above(upper, lower):
    return [2, upper, lower]


def same(a, b):
    return [3, a, b]


def find(unit, made_from, made_to):
    return [4, unit, made_from, made_to]


def date(unit, year_from, year_to):
    return [5, unit, year_from, year_to]


def retract(fact_id):
    return [6, fact_id]


def is_earlier(a, b):
    return [7, a, b]


def year_range(unit):
    return [8, unit]


def find_year_range(fact_id):
    return [9, fact_id]


def stratum(unit):
    return [10, unit]


def position_range(unit):
    return [11, unit]


def same_year(a, b):
    return [15, a, b]


def explain(a, b):
    return [16, a, b]


def ask(units, *calls):
    """The answers of the calls, after as many units were added; one list for each call."""
    session = [UNIT] * units + list(calls)
    assert len(session) <= MOST_CALLS, "more calls than are ever handed in"
    numbers = [number for call in session for number in call]
    assert len(numbers) <= MOST_NUMBERS, "more numbers than are ever handed in"
    return taken_apart(answers(numbers))[units:]


def last(units, *calls):
    """The answer of the last call."""
    return ask(units, *calls)[-1]


def taken_apart(numbers):
    """Lists of numbers, each of which stands behind its length."""
    parts = []
    place = 0
    while place < len(numbers):
        end = place + 1 + numbers[place]
        parts.append(numbers[place + 1:end])
        place = end
    return parts


def behind(units, calls, questions):
    """The answers of the questions behind the calls, in as many sessions as it takes."""
    room = min(MOST_CALLS - units - len(calls), (MOST_NUMBERS - units - sum(map(len, calls))) // 3)
    given = []
    for start in range(0, len(questions), room):
        given += ask(units, *calls, *questions[start:start + room])[len(calls):]
    return given


class Numbers:
    """Numbers that look like chance and are the same each time."""

    def __init__(self, seed):
        self.state = seed

    def below(self, count):
        self.state = (self.state * 6364136223846793005 + 1442695040888963407) % 2 ** 64
        return (self.state >> 33) % count

    def one_of(self, things):
        return things[self.below(len(things))]


def some_fact(numbers, units):
    """A fact about some of the units."""
    first = numbers.below(units)
    second = (first + 1 + numbers.below(units - 1)) % units
    years = sorted([numbers.one_of(NAMED_YEARS), numbers.one_of(NAMED_YEARS)])
    if years[0] == -5000 and numbers.below(2):
        years[0] = min(years[1], 10)
    make = numbers.one_of((above, above, same, find, date, date))
    return make(first, second) if make in (above, same) else make(first, *years)
