"""Counts of tables and totals of areas."""


def cells_of(plan, table):
    """Return the list of all cells of a table, in order."""
    size = len(plan.classes(table))
    return [(area, number) for area in plan.areas.names() for number in range(size)]


def counts_of(census, table):
    """Return the counts of a table."""
    plan = census.plan
    counts = {cell: 0 for cell in cells_of(plan, table)}
    for (area, values), number in census.records():
        counts[(area, plan.class_of(table, values))] += number
    size = len(plan.classes(table))
    # Children stand behind their parents, so an area is complete when its turn comes.
    for area in reversed(plan.areas.names()):
        parent = plan.areas.parent(area)
        if parent is not None:
            for number in range(size):
                counts[(parent, number)] += counts[(area, number)]
    return counts


def totals_of(census):
    """Return the totals of all areas."""
    tree = census.plan.areas
    totals = {area: 0 for area in tree.names()}
    for (area, values), number in census.records():
        totals[area] += number
    for area in reversed(tree.names()):
        parent = tree.parent(area)
        if parent is not None:
            totals[parent] += totals[area]
    return totals


def has_keys(table, keys):
    """Tell whether a dict has exactly the keys of a list of different keys."""
    return len(table) == len(keys) and all([key in table for key in keys])


def has_negative(numbers):
    """Tell whether one of the numbers of a dict is negative; None is not."""
    return any([number is not None and number < 0 for number in numbers.values()])


def totals_fit(tree, totals):
    """Tell whether the total of each area with children is the sum of those of the children."""
    for area in tree.names():
        children = tree.children(area)
        if children and totals[area] != sum([totals[child] for child in children]):
            return False
    return True


def area_counts_fit(tree, area, size, counts, totals):
    """Tell whether the counts of an area fit its total, or those of its children."""
    children = tree.children(area)
    if not children:
        return sum([counts[(area, number)] for number in range(size)]) == totals[area]
    for number in range(size):
        if counts[(area, number)] != sum([counts[(child, number)] for child in children]):
            return False
    return True


def counts_fit(plan, table, counts, totals):
    """Tell whether counts and totals have the right keys and fit."""
    tree = plan.areas
    if not has_keys(counts, cells_of(plan, table)) or not has_keys(totals, tree.names()):
        return False
    if has_negative(counts) or has_negative(totals) or not totals_fit(tree, totals):
        return False
    size = len(plan.classes(table))
    return all([area_counts_fit(tree, area, size, counts, totals) for area in tree.names()])
