"""The sequences in which the strata can have been deposited.

Where strata are told by bits, a whole number has the bit of each of them, which
is the bit with the stratum's number.
"""

from strataproofs.strata import earlier_strata


def position_limits(order, stratum):
    """The smallest and the largest position of a stratum in all sequences."""
    last = len(order.strata) - 1
    return (len(earlier_strata(order, stratum)), last - len(order.later[stratum]))


def smallest_sequence(order):
    """The lexicographically smallest sequence."""
    earlier = earlier_bits(order)
    placed = 0
    sequence = []
    while len(sequence) < len(order.strata):
        stratum = min(next_strata(earlier, placed))
        sequence.append(stratum)
        placed = placed | (1 << stratum)
    return sequence


def sequence_count(order):
    """How many sequences there are."""
    earlier = earlier_bits(order)
    # By the bits of the strata at the first positions: in how many orders they can stand there.
    # What can follow them does not depend on these orders, so they are counted together.
    counts = {0: 1}
    for place in range(len(order.strata)):
        counts = longer_counts(earlier, counts)
    return sum(counts.values())


def longer_counts(earlier, counts):
    """The counts for one position more."""
    longer = {}
    for placed, count in counts.items():
        for stratum in next_strata(earlier, placed):
            bits = placed | (1 << stratum)
            longer[bits] = longer.get(bits, 0) + count
    return longer


def next_strata(earlier, placed):
    """The strata that can stand at the next position, behind those whose bits are placed."""
    return [
        stratum
        for stratum, before in earlier.items()
        if placed & (1 << stratum) == 0 and placed & before == before
    ]


def earlier_bits(order):
    """For each stratum the bits of those that are certainly earlier."""
    earlier = {}
    for stratum in order.strata:
        earlier[stratum] = sum([1 << other for other in earlier_strata(order, stratum)])
    return earlier
