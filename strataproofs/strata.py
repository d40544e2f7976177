"""The strata of a session, and which of them are certainly earlier than others.

A stratum is told by its lowest-numbered unit.
"""

from strataproofs.chains import chains_from, steps_of


class Order:
    """All strata, and for each the list of those that are certainly later; each list ascends."""

    def __init__(self, strata, later):
        self.strata = strata
        self.later = later


def stratum_of(steps, unit):
    """The stratum of a unit."""
    chains = chains_from(steps, unit)
    # The steps of a chain that is not strict are over same facts alone.
    return min([end for end, chain in chains.items() if not chain.is_strict])


def order_of(record):
    """The order of the strata of a session."""
    steps = steps_of(record.active_facts)
    strata = [unit for unit in range(record.unit_count) if stratum_of(steps, unit) == unit]
    later = {}
    for stratum in strata:
        chains = chains_from(steps, stratum)
        later[stratum] = [other for other in strata if other in chains and chains[other].is_strict]
    return Order(strata, later)


def earlier_strata(order, stratum):
    """The strata that are certainly earlier than a stratum."""
    return [other for other in order.strata if stratum in order.later[other]]


def nearest_pairs(order):
    """The pairs of an earlier and a later stratum that have no third stratum between them."""
    pairs = []
    for earlier in order.strata:
        for later in order.later[earlier]:
            if not any([later in order.later[between] for between in order.later[earlier]]):
                pairs.append((earlier, later))
    return pairs


def undetermined_pairs(order):
    """The pairs of strata of which neither is certainly earlier, the smaller number first."""
    pairs = []
    for a in order.strata:
        for b in order.strata:
            if a < b and b not in order.later[a] and a not in order.later[b]:
                pairs.append((a, b))
    return pairs
