"""Why a fact contradicts the active facts.

Each `explain_..` gives back the explanation as a list of fact ids. The list is
empty if the fact contradicts nothing: a contradiction has at least one id.
"""

from strataproofs.chains import chain_between, chains_from, preference, steps_of, strict_chain_between
from strataproofs.facts import earliest_limits, latest_limits


def explain_above(facts, upper, lower):
    """The explanation for the fact above(upper, lower)."""
    chain = chain_between(steps_of(facts), upper, lower)
    return [] if chain is None else chain.ids


def explain_same(facts, a, b):
    """The explanation for the fact same(a, b)."""
    steps = steps_of(facts)
    chains = [strict_chain_between(steps, a, b), strict_chain_between(steps, b, a)]
    return preferred([chain.ids for chain in chains if chain is not None])


def explain_find(facts, unit, made_from):
    """The explanation for the fact find(unit, made_from, _)."""
    return preferred(lists_to_years_before(facts, unit, made_from))


def explain_date(facts, unit, year_from, year_to):
    """The explanation for the fact date(unit, year_from, year_to)."""
    too_early = lists_to_years_before(facts, unit, year_from)
    too_late = lists_from_years_after(facts, unit, year_to)
    return preferred(too_early + too_late)


def lists_to_years_before(facts, unit, year):
    """Lists that prove that `unit` was deposited before the year; the preferred one is among them."""
    chains = chains_from(steps_of(facts), unit)
    lists = []
    for fact_id, end, latest in latest_limits(facts):
        if latest < year and end in chains:
            lists.append(chains[end].ids + [fact_id])
    return lists


def lists_from_years_after(facts, unit, year):
    """Lists that prove that `unit` was deposited after the year; the preferred one is among them."""
    steps = steps_of(facts)
    lists = []
    for fact_id, start, earliest in earliest_limits(facts):
        chain = chain_between(steps, start, unit) if earliest > year else None
        if chain is not None:
            lists.append([fact_id] + chain.ids)
    return lists


def preferred(lists):
    """The preferred one of several lists of fact ids, or the empty list if there are none."""
    return min(lists, key=preference, default=[])
