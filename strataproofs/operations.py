"""The operations of a session: each checks its arguments and gives back what is answered."""

from strataproofs.checks import (
    check_active_fact,
    check_different_units,
    check_unit,
    check_unit_and_years,
    check_units,
)
from strataproofs.chronology import answer_is_earlier, earliest_year, latest_find_year, latest_year
from strataproofs.contradictions import explain_above, explain_date, explain_find, explain_same
from strataproofs.facts import Above, Date, Find, Same
from strataproofs.limits import MOST_FACTS, MOST_UNITS
from strataproofs.refusals import Contradiction, Full, NotFind


def add_unit(record):
    """Adds a unit; answers its number."""
    if record.unit_count == MOST_UNITS:
        raise Full()
    return [record.new_unit()]


def add_above(record, upper, lower):
    """Records that one unit lies above another; answers the fact's id."""
    check_different_units(record, upper, lower)
    explanation = explain_above(record.active_facts, upper, lower)
    return add_fact(record, Above(upper, lower), explanation)


def add_same(record, a, b):
    """Records that two units are parts of the same stratum; answers the fact's id."""
    check_different_units(record, a, b)
    explanation = explain_same(record.active_facts, a, b)
    return add_fact(record, Same(a, b), explanation)


def add_find(record, unit, made_from, made_to):
    """Records an object found in a unit; answers the fact's id."""
    check_unit_and_years(record, unit, made_from, made_to)
    explanation = explain_find(record.active_facts, unit, made_from)
    return add_fact(record, Find(unit, made_from, made_to), explanation)


def add_date(record, unit, year_from, year_to):
    """Records the years of a unit; answers the fact's id."""
    check_unit_and_years(record, unit, year_from, year_to)
    explanation = explain_date(record.active_facts, unit, year_from, year_to)
    return add_fact(record, Date(unit, year_from, year_to), explanation)


def add_fact(record, fact, explanation):
    """Accepts a fact that has room and whose explanation of a contradiction is empty."""
    if explanation:
        raise Contradiction(explanation)
    if record.accepted_count == MOST_FACTS:
        raise Full()
    return [record.accept(fact)]


def retract(record, fact_id):
    """Retracts an active fact."""
    check_active_fact(record, fact_id)
    record.withdraw(fact_id)
    return [0]


def is_earlier(record, a, b):
    """Answers whether one unit is earlier than another."""
    check_units(record, a, b)
    return [0, answer_is_earlier(record.active_facts, a, b)]


def year_range(record, unit):
    """Answers the smallest and the largest deposition year of a unit."""
    check_unit(record, unit)
    facts = record.active_facts
    return [0, earliest_year(facts, unit), latest_year(facts, unit)]


def find_year_range(record, fact_id):
    """Answers the smallest and the largest manufacturing year of a find's object."""
    check_active_fact(record, fact_id)
    fact = record.active_facts[fact_id]
    if not isinstance(fact, Find):
        raise NotFind()
    return [0, fact.made_from, latest_find_year(record.active_facts, fact)]
