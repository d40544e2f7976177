"""Chains of facts, which prove that one unit is not earlier than another."""

from strataproofs.facts import Above, Same, earliest_limits, latest_limits


class Step:
    """A step to the unit `end`, with the fact ids that it adds to a chain."""

    def __init__(self, end, ids, is_strict):
        self.end = end
        self.ids = ids
        self.is_strict = is_strict


class Chain:
    """The fact ids of a chain, and whether one of its steps is strict."""

    def __init__(self, ids, is_strict):
        self.ids = ids
        self.is_strict = is_strict


def preference(ids):
    """Of several lists of fact ids the preferred one has the smallest preference."""
    return (len(ids), ids)


def steps_of(facts):
    """The steps that the active facts allow: for each unit the list of those that start there."""
    steps = {}
    for fact_id, fact in facts.items():
        if isinstance(fact, Above):
            add_step(steps, fact.lower, Step(fact.upper, [fact_id], True))
        if isinstance(fact, Same):
            add_step(steps, fact.a, Step(fact.b, [fact_id], False))
            add_step(steps, fact.b, Step(fact.a, [fact_id], False))
    add_year_steps(steps, facts)
    return steps


def add_year_steps(steps, facts):
    """Adds the steps from units to units that can only have been deposited in later years."""
    for latest_id, unit, latest in latest_limits(facts):
        for earliest_id, later_unit, earliest in earliest_limits(facts):
            if latest < earliest:
                add_step(steps, unit, Step(later_unit, [latest_id, earliest_id], True))


def add_step(steps, start, step):
    """Adds a step to those of the unit where it starts."""
    steps.setdefault(start, []).append(step)


def chains_from(steps, start):
    """The preferred chain from `start` to each unit to which one leads.

    The steps come from facts that do not contradict each other. So the chains
    from one unit to another are either all strict or all not strict, and the
    preferred one of them is also the preferred one of their kind.
    """
    reached = {start: Chain([], False)}
    settled = {}
    while reached:
        # A step makes a list longer, so no other way to this unit can be preferred.
        unit = min(reached, key=lambda end: preference(reached[end].ids))
        chain = reached.pop(unit)
        settled[unit] = chain
        for step in steps.get(unit, []):
            if step.end not in settled:
                reach(reached, step.end, longer_chain(chain, step))
    return settled


def longer_chain(chain, step):
    """The chain with one step more."""
    return Chain(chain.ids + step.ids, chain.is_strict or step.is_strict)


def reach(reached, unit, chain):
    """Keeps the chain to a unit, if none that is preferred to it is kept already."""
    if unit not in reached or preference(chain.ids) < preference(reached[unit].ids):
        reached[unit] = chain


def chain_between(steps, start, end):
    """The preferred chain from one unit to another, or None if there is no chain."""
    return chains_from(steps, start).get(end)


def strict_chain_between(steps, start, end):
    """The preferred strict chain from one unit to another, or None if there is no strict chain."""
    chain = chain_between(steps, start, end)
    return chain if chain is not None and chain.is_strict else None
