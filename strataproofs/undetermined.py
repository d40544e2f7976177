"""Which question about an undetermined pair of strata leaves the fewest such pairs."""

from strataproofs.strata import earlier_strata, undetermined_pairs


def best_pair(order):
    """The best pair and how many undetermined pairs its answer leaves at worst; None if there is no pair."""
    pairs = undetermined_pairs(order)
    questions = [(most_left(order, len(pairs), a, b), a, b) for a, b in pairs]
    if not questions:
        return None
    worst, a, b = min(questions)
    return (a, b, worst)


def most_left(order, count, a, b):
    """How many of the undetermined pairs are left at worst when it is known which of two strata is earlier."""
    return count - min(settled_count(order, a, b), settled_count(order, b, a))


def settled_count(order, earlier, later):
    """How many undetermined pairs are settled when one stratum of such a pair is known to be earlier."""
    # A new chain goes from a stratum not later than the one to a stratum not earlier than the other.
    starts = [earlier] + earlier_strata(order, earlier)
    ends = [later] + order.later[later]
    count = 0
    for start in starts:
        count = count + len([end for end in ends if end not in order.later[start]])
    return count
