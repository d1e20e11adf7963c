"""Swaps of records between areas, and the cells that they disguise."""

from cellguard.census import Census
from cellguard.counting import cells_of
from cellguard.errors import InvalidPattern, InvalidRecord
from cellguard.rules import protected_cells


def check_swap(tree, numbers, swap):
    """Raise InvalidRecord if a swap cannot be made, given the dict from the records to their numbers."""
    for record in swap:
        if numbers.get(record, 0) == 0:
            raise InvalidRecord("a record of a swap does not occur")
    first_leaf, second_leaf = [leaf for leaf, _ in swap]
    if first_leaf == second_leaf or tree.parent(first_leaf) != tree.parent(second_leaf):
        raise InvalidRecord("the leaves of a swap are equal or have different parents")


def swapped(census, swaps):
    """Return a new census in which the swaps of a list were made, one after the other."""
    numbers = {record: number for record, number in census.records()}
    for swap in swaps:
        check_swap(census.plan.areas, numbers, swap)
        (first_leaf, first_values), (second_leaf, second_values) = swap
        for record in swap:
            numbers[record] -= 1
        for record in ((second_leaf, first_values), (first_leaf, second_values)):
            numbers[record] = numbers.get(record, 0) + 1
    return Census(census.plan, list(numbers.items()))


def disguised_cells(census, table, rule, swaps):
    """Return the ascending list of the protected cells of leaves that the swaps of a list disguise."""
    protected = protected_cells(census, table, rule)
    disguised = {}
    for (first_leaf, first_values), (second_leaf, second_values) in swaps:
        first = census.plan.class_of(table, first_values)
        second = census.plan.class_of(table, second_values)
        if first != second:
            for leaf in (first_leaf, second_leaf):
                disguised[(leaf, first)] = True
                disguised[(leaf, second)] = True
    return [cell for cell in protected if cell in disguised and census.plan.areas.is_leaf(cell[0])]


def first_swap(census, table, cell):
    """Return a swap of a record in a cell and one of another class in a neighboring leaf, or None."""
    plan = census.plan
    tree = plan.areas
    if cell not in cells_of(plan, table) or not tree.is_leaf(cell[0]):
        raise InvalidPattern(f"{cell} is no cell of a leaf")
    taken = None
    given = None
    for record, _ in census.records():
        leaf, values = record
        number = plan.class_of(table, values)
        if (leaf, number) == cell:
            taken = record
        elif leaf != cell[0] and number != cell[1] and tree.parent(leaf) == tree.parent(cell[0]):
            given = record
    return None if taken is None or given is None else (taken, given)
