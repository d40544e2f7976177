"""The operations of a session: each checks its arguments and gives back what is answered."""

from strataproofs.chains import steps_of, strict_chain_between
from strataproofs.checks import (
    check_active_fact,
    check_different_units,
    check_unit,
    check_unit_and_years,
    check_units,
)
from strataproofs.chronology import (
    answer_is_earlier,
    answer_same_year,
    earliest_year,
    latest_find_year,
    latest_year,
)
from strataproofs.contradictions import explain_above, explain_date, explain_find, explain_same
from strataproofs.facts import Above, Date, Find, Same, call_of
from strataproofs.limits import MOST_FACTS, MOST_UNITS
from strataproofs.refusals import Contradiction, Full, NoneUndetermined, NotEarlier, NotFind
from strataproofs.sequences import position_limits, sequence_count, smallest_sequence
from strataproofs.strata import nearest_pairs, order_of, stratum_of
from strataproofs.undetermined import best_pair


def add_unit(record):
    """Adds a unit; answers its number."""
    if record.unit_count == MOST_UNITS:
        raise Full()
    return [record.new_unit()]


def add_above(record, upper, lower):
    """Records that one unit lies above another; answers the fact's id."""
    check_different_units(record, upper, lower)
    explanation = explain_above(record.active_facts, upper, lower)
    return add_fact(record, Above(upper, lower), explanation)


def add_same(record, a, b):
    """Records that two units are parts of the same stratum; answers the fact's id."""
    check_different_units(record, a, b)
    explanation = explain_same(record.active_facts, a, b)
    return add_fact(record, Same(a, b), explanation)


def add_find(record, unit, made_from, made_to):
    """Records an object found in a unit; answers the fact's id."""
    check_unit_and_years(record, unit, made_from, made_to)
    explanation = explain_find(record.active_facts, unit, made_from)
    return add_fact(record, Find(unit, made_from, made_to), explanation)


def add_date(record, unit, year_from, year_to):
    """Records the years of a unit; answers the fact's id."""
    check_unit_and_years(record, unit, year_from, year_to)
    explanation = explain_date(record.active_facts, unit, year_from, year_to)
    return add_fact(record, Date(unit, year_from, year_to), explanation)


def add_fact(record, fact, explanation):
    """Accepts a fact that has room and whose explanation of a contradiction is empty."""
    if explanation:
        raise Contradiction(explanation)
    if record.accepted_count == MOST_FACTS:
        raise Full()
    return [record.accept(fact)]


def retract(record, fact_id):
    """Retracts an active fact."""
    check_active_fact(record, fact_id)
    record.withdraw(fact_id)
    return [0]


def is_earlier(record, a, b):
    """Answers whether one unit is earlier than another."""
    check_units(record, a, b)
    return [0, answer_is_earlier(record.active_facts, a, b)]


def year_range(record, unit):
    """Answers the smallest and the largest deposition year of a unit."""
    check_unit(record, unit)
    facts = record.active_facts
    return [0, earliest_year(facts, unit), latest_year(facts, unit)]


def find_year_range(record, fact_id):
    """Answers the smallest and the largest manufacturing year of a find's object."""
    check_active_fact(record, fact_id)
    fact = record.active_facts[fact_id]
    if not isinstance(fact, Find):
        raise NotFind()
    return [0, fact.made_from, latest_find_year(record.active_facts, fact)]


def stratum(record, unit):
    """Answers the lowest-numbered unit of a unit's stratum."""
    check_unit(record, unit)
    return [0, stratum_of(steps_of(record.active_facts), unit)]


def position_range(record, unit):
    """Answers the smallest and the largest position of a unit's stratum in all sequences."""
    check_unit(record, unit)
    representative = stratum_of(steps_of(record.active_facts), unit)
    first, last = position_limits(order_of(record), representative)
    return [0, first, last]


def harris_matrix(record):
    """Answers how many pairs of strata generate the whole order, and these."""
    pairs = nearest_pairs(order_of(record))
    answer = [0, len(pairs)]
    for earlier, later in pairs:
        answer.extend([earlier, later])
    return answer


def first_sequence(record):
    """Answers how many strata there are, and the lexicographically smallest sequence of them."""
    sequence = smallest_sequence(order_of(record))
    return [0, len(sequence)] + sequence


def count_sequences(record):
    """Answers how many sequences there are."""
    return [0, sequence_count(order_of(record))]


def same_year(record, a, b):
    """Answers whether two units have the same year."""
    check_units(record, a, b)
    return [0, answer_same_year(record.active_facts, a, b)]


def explain(record, a, b):
    """Answers how many facts prove that one unit is earlier than another, and their ids."""
    check_units(record, a, b)
    chain = strict_chain_between(steps_of(record.active_facts), a, b)
    if chain is None:
        raise NotEarlier()
    return [0, len(chain.ids)] + chain.ids


def best_question(record):
    """Answers the pair of strata to ask about, and how many undetermined pairs that leaves at worst."""
    best = best_pair(order_of(record))
    if best is None:
        raise NoneUndetermined()
    return [0] + list(best)


def list_facts(record):
    """Answers how many facts are active, and five numbers for each in the order of their ids."""
    answer = [0, len(record.active_facts)]
    for fact_id in sorted(record.active_facts):
        answer.extend([fact_id] + call_of(record.active_facts[fact_id]))
    return answer
