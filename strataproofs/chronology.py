"""What the active facts tell of the order and of the years of units and finds."""

from strataproofs.chains import chain_between, chains_from, steps_of, strict_chain_between
from strataproofs.facts import earliest_limits, latest_limits
from strataproofs.limits import FIRST_YEAR, LAST_YEAR
from strataproofs.strata import stratum_of

NEVER = 0
ALWAYS = 1
SOMETIMES = 2


def answer_is_earlier(facts, a, b):
    """In how many of the scenarios unit `a` is earlier than unit `b`."""
    steps = steps_of(facts)
    if strict_chain_between(steps, a, b) is not None:
        return ALWAYS
    # Here units of one stratum, and a unit and itself, have a chain, too.
    if chain_between(steps, b, a) is not None:
        return NEVER
    return SOMETIMES


def answer_same_year(facts, a, b):
    """In how many of the scenarios two units have the same year."""
    steps = steps_of(facts)
    if stratum_of(steps, a) == stratum_of(steps, b):
        return ALWAYS
    earliest = [earliest_year(facts, a), earliest_year(facts, b)]
    latest = [latest_year(facts, a), latest_year(facts, b)]
    if max(earliest) > min(latest):
        return NEVER
    # Two strata can be as far apart as their ranges reach: the earlier at its smallest year while the
    # later is at its largest one.
    if min(earliest) == max(latest):
        return ALWAYS
    return SOMETIMES


def earliest_year(facts, unit):
    """The smallest deposition year of a unit."""
    steps = steps_of(facts)
    years = [FIRST_YEAR]
    for fact_id, start, year in earliest_limits(facts):
        if chain_between(steps, start, unit) is not None:
            years.append(year)
    return max(years)


def latest_year(facts, unit):
    """The largest deposition year of a unit."""
    chains = chains_from(steps_of(facts), unit)
    years = [LAST_YEAR]
    for fact_id, end, year in latest_limits(facts):
        if end in chains:
            years.append(year)
    return min(years)


def latest_find_year(facts, find):
    """The largest manufacturing year of the object of a find fact."""
    return min(find.made_to, latest_year(facts, find.unit))
