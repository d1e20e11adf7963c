"""Coarser tables: the ranges of derived ones, and groupings in which no count is small."""

from cellguard.errors import InvalidPattern, UnknownName
from cellguard.linking import arc_of, network_of
from cellguard.pricing import best_flow
from cellguard.ranges import checked_flows


def check_merging(size, merging):
    """Raise InvalidPattern if a list of lists is no merging of a table with a number of classes."""
    if not all([len(numbers) > 0 for numbers in merging]):
        raise InvalidPattern("a list is empty")
    if sorted([number for numbers in merging for number in numbers]) != list(range(size)):
        raise InvalidPattern("a class does not occur exactly once")


def arcs_range(network, arcs):
    """Return the tuple of the least and the greatest sum of the values of some arcs."""
    weights = {arc: 1 for arc in arcs}
    ends = []
    for way in (-1, 1):
        flow, _ = best_flow(network, weights, way)
        ends.append(sum([flow[arc] for arc in arcs]))
    return tuple(ends)


def derived_ranges(publication, table, merging):
    """Return the dict from the areas and the numbers of the lists of a merging to the derived ranges."""
    if table not in publication.tables():
        raise UnknownName(table)
    plan = publication.plan
    check_merging(len(plan.classes(table)), merging)
    checked_flows(publication, table)
    network = network_of(publication, table)
    ranges = {}
    for area in plan.areas.names():
        for at, numbers in enumerate(merging):
            arcs = [arc_of(plan, table, (area, number)) for number in numbers]
            ranges[(area, at)] = arcs_range(network, arcs)
    return ranges


def value_counts(census, attribute):
    """Return the tuple of the values of an attribute and the list of the dicts of their counts in the leaves."""
    attributes = census.plan.attributes()
    names = [name for name, _ in attributes]
    if attribute not in names:
        raise UnknownName(attribute)
    place = names.index(attribute)
    counts = {leaf: {value: 0 for value in attributes[place][1]} for leaf in census.plan.areas.leaves()}
    for (leaf, values), number in census.records():
        counts[leaf][values[place]] += number
    return attributes[place][1], list(counts.values())


def group_suits(rows, group, threshold):
    """Tell whether the count of a group is 0 or at least a threshold, given the counts in all leaves.

    Then it is so in every area, because its count is the sum of those of its leaves.
    """
    for row in rows:
        if 1 <= sum([row[value] for value in group]) < threshold:
            return False
    return True


def suits(census, attribute, grouping, threshold):
    """Tell whether a run grouping suits."""
    _, rows = value_counts(census, attribute)
    return all([group_suits(rows, group, threshold) for group in grouping])


def finest_grouping(census, attribute, threshold):
    """Return a finest run grouping, or None if no run grouping suits."""
    values, rows = value_counts(census, attribute)
    # The finest groupings of the first values, by their number; None where no grouping suits.
    finest = [[]]
    for end in range(1, len(values) + 1):
        best = None
        for start in range(end):
            known = finest[start]
            if known is None or (best is not None and len(known) < len(best)):
                continue
            if group_suits(rows, values[start:end], threshold):
                best = known + [values[start:end]]
        finest.append(best)
    return finest[-1]
