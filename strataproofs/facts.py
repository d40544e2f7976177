"""The four kinds of facts, and the limits that they set to the years of units."""

from strataproofs.operation_numbers import ADD_ABOVE, ADD_DATE, ADD_FIND, ADD_SAME


class Above:
    """Unit `upper` lies above unit `lower`, so it was deposited later."""

    def __init__(self, upper, lower):
        self.upper = upper
        self.lower = lower


class Same:
    """Units `a` and `b` are parts of the same stratum."""

    def __init__(self, a, b):
        self.a = a
        self.b = b


class Find:
    """An object found in `unit` was made in a year from `made_from` to `made_to`."""

    def __init__(self, unit, made_from, made_to):
        self.unit = unit
        self.made_from = made_from
        self.made_to = made_to


class Date:
    """`unit` was deposited in a year from `year_from` to `year_to`."""

    def __init__(self, unit, year_from, year_to):
        self.unit = unit
        self.year_from = year_from
        self.year_to = year_to


def call_of(fact):
    """The number of the operation that adds a fact, and three arguments, of which a missing one is 0."""
    if isinstance(fact, Above):
        return [ADD_ABOVE, fact.upper, fact.lower, 0]
    if isinstance(fact, Same):
        return [ADD_SAME, fact.a, fact.b, 0]
    if isinstance(fact, Find):
        return [ADD_FIND, fact.unit, fact.made_from, fact.made_to]
    return [ADD_DATE, fact.unit, fact.year_from, fact.year_to]


def earliest_limits(facts):
    """A tuple (fact id, unit, year) for each fact by which the unit is not earlier than the year."""
    limits = []
    for fact_id, fact in facts.items():
        if isinstance(fact, Find):
            limits.append((fact_id, fact.unit, fact.made_from))
        if isinstance(fact, Date):
            limits.append((fact_id, fact.unit, fact.year_from))
    return limits


def latest_limits(facts):
    """A tuple (fact id, unit, year) for each fact by which the unit is not later than the year."""
    limits = []
    for fact_id, fact in facts.items():
        if isinstance(fact, Date):
            limits.append((fact_id, fact.unit, fact.year_to))
    return limits
