"""Calls by their names, and the answers taken apart call by call."""

from strataproofs.excavation import answers

UNIT = [1]


def above(upper, lower):
    return [2, upper, lower]


def same(a, b):
    return [3, a, b]


def find(unit, made_from, made_to):
    return [4, unit, made_from, made_to]


def date(unit, year_from, year_to):
    return [5, unit, year_from, year_to]


def retract(fact_id):
    return [6, fact_id]


def is_earlier(a, b):
    return [7, a, b]


def year_range(unit):
    return [8, unit]


def find_year_range(fact_id):
    return [9, fact_id]


def ask(units, *calls):
    """The answers of the calls, after as many units were added; one list for each call."""
    session = [UNIT] * units + list(calls)
    assert len(session) <= 60, "more calls than are ever handed in"
    numbers = [number for call in session for number in call]
    assert len(numbers) <= 300, "more numbers than are ever handed in"
    return taken_apart(answers(numbers))[units:]


def last(units, *calls):
    """The answer of the last call."""
    return ask(units, *calls)[-1]


def taken_apart(numbers):
    """Lists of numbers, each of which stands behind its length."""
    parts = []
    place = 0
    while place < len(numbers):
        end = place + 1 + numbers[place]
        parts.append(numbers[place + 1:end])
        place = end
    return parts
