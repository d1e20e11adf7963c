"""Plans, censuses and enumerations that several tests use."""

from itertools import product

from cellguard.census import Census
from cellguard.plan import Plan, read_plan

LAND_TEXT = (
    "area land\n"
    "area north in land\n"
    "area south in land\n"
    "area hill in north\n"
    "area dale in north\n"
    "attribute age child adult old\n"
    "attribute sex f m\n"
    "attribute work no yes\n"
    "table people age:child,adult+old sex\n"
    "table jobs work:yes,no\n"
)

LAND_CENSUS_TEXT = (
    "3 south child m no\n"
    "1 south old f no\n"
    "2 hill child f no\n"
    "4 hill adult m yes\n"
    "5 dale old f yes\n"
)

SINGLES = [["a"], ["b"]]


def land_plan():
    """A tree of three levels with two tables; `jobs` has its groups in another order."""
    return read_plan(LAND_TEXT)


def land_census():
    return Census(land_plan(), [
        (("hill", ("child", "f", "no")), 2),
        (("hill", ("adult", "m", "yes")), 4),
        (("dale", ("old", "f", "yes")), 5),
        (("south", ("child", "m", "no")), 3),
        (("south", ("old", "f", "no")), 1),
    ])


def pair_plan():
    """A small plan of three leaves whose censuses can be tried one by one."""
    return Plan(
        [("top", None), ("left", "top"), ("x", "left"), ("y", "left"), ("z", "top")],
        [("one", ["a", "b"]), ("two", ["a", "b"])],
        [("first", [("one", SINGLES)]), ("second", [("two", SINGLES)])],
    )


def splits(total, parts):
    """All lists of a number of integers from 0 on with the given sum."""
    if parts == 1:
        return [[total]]
    return [[head, *rest] for head in range(total + 1) for rest in splits(total - head, parts - 1)]


def all_censuses(plan, leaf_totals):
    """All censuses of a plan that have the given totals of the leaves."""
    kinds = list(product(*[values for _, values in plan.attributes()]))
    choices = []
    for leaf, total in leaf_totals.items():
        records = [(leaf, kind) for kind in kinds]
        choices.append([list(zip(records, split)) for split in splits(total, len(kinds))])
    for choice in product(*choices):
        yield Census(plan, [entry for part in choice for entry in part])


def all_flows(nodes, arcs):
    """All flows of a network, found by trying all values."""
    for values in product(*[range(least, most + 1) for _, _, least, most in arcs]):
        surplus = [0] * nodes
        for (tail, head, _, _), value in zip(arcs, values):
            surplus[tail] -= value
            surplus[head] += value
        if not any(surplus):
            yield list(values)


def is_closed(nodes, arcs, members):
    """Whether the sums of point 15 show that a set is closed."""
    entering = sum(arc[2] for arc in arcs if arc[1] in members and arc[0] not in members)
    leaving = sum(arc[3] for arc in arcs if arc[0] in members and arc[1] not in members)
    return entering > leaving


def shown_bound(arcs, arc, way, members):
    """The bound of point 16, or None if the arc does not cross the set as it must."""
    enters = [k for k, (u, v, _, _) in enumerate(arcs) if v in members and u not in members]
    leaves = [k for k, (u, v, _, _) in enumerate(arcs) if u in members and v not in members]
    if way == 1:
        if arc not in enters:
            return None
        return sum(arcs[k][3] for k in leaves) - sum(arcs[k][2] for k in enters if k != arc)
    if arc not in leaves:
        return None
    return sum(arcs[k][2] for k in enters) - sum(arcs[k][3] for k in leaves if k != arc)


def is_right(network, arc, paper):
    """Whether a paper is right, by the words of point 23."""
    way, bound, members = paper
    arcs = network.arcs()
    if members is None:
        return arcs[arc][3] <= bound if way == 1 else arcs[arc][2] >= bound
    if type(members) is not list or members != sorted(set(members)):
        return False
    if not all(0 <= node < network.nodes for node in members):
        return False
    shown = shown_bound(arcs, arc, way, members)
    if shown is None:
        return False
    return shown <= bound if way == 1 else shown >= bound


def triple_plan():
    """A tree of three levels with a table of three classes, and one with a single area."""
    return Plan([("top", None), ("left", "top"), ("x", "left"), ("y", "left"), ("z", "top")],
                [("one", ["a", "b", "c"])], [("t", [("one", [["b"], ["c"], ["a"]])])])


def flat_plan(leaves, classes):
    """A root with a number of leaves, and a table with a number of classes."""
    letters = list("abcdefgh"[:classes])
    return Plan([("top", None)] + [(f"l{k}", "top") for k in range(leaves)],
                [("one", letters)], [("t", [("one", [[letter] for letter in letters])])])


def census_of_rows(plan, rows):
    """A census of a plan with one attribute, from a dict from leaves to the numbers of its values."""
    values = plan.attributes()[0][1]
    return Census(plan, [((leaf, (value,)), number) for leaf, row in rows.items() for value, number in zip(values, row)])


def random_census(plan, generator, choices):
    """A census of a plan with one attribute, with numbers out of a list."""
    many = len(plan.attributes()[0][1])
    return census_of_rows(plan, {leaf: [generator.choice(choices) for _ in range(many)] for leaf in plan.areas.leaves()})


def all_tables(plan, table, totals):
    """All counts of a table that fit the totals, found by trying all rows of the leaves."""
    size = len(plan.classes(table))
    leaves = plan.areas.leaves()
    below = {area: plan.areas.leaves_below(area) for area in plan.areas.names()}
    found = []
    for rows in product(*[splits(totals[leaf], size) for leaf in leaves]):
        at = dict(zip(leaves, rows))
        found.append({(area, number): sum(at[leaf][number] for leaf in below[area])
                      for area in plan.areas.names() for number in range(size)})
    return found


def agreeing_tables(tables, counts, pattern):
    """Those of the tables that have the counts in all cells that are not in the pattern."""
    shown = [cell for cell in counts if cell not in pattern]
    return [other for other in tables if all(other[cell] == counts[cell] for cell in shown)]


def tried_range(tables, cell):
    values = [counts[cell] for counts in tables]
    return min(values), max(values)


def tried_exposed(tables, counts, totals, rule, pattern):
    """The exposed cells of a pattern, by the words of points 28 and 29."""
    threshold, down, up = rule
    agreeing = agreeing_tables(tables, counts, pattern)
    exposed = []
    for cell, count in counts.items():
        if 1 <= count < threshold:
            least, greatest = tried_range(agreeing, cell)
            if cell not in pattern or least > max(0, count - down) or greatest < min(totals[cell[0]], count + up):
                exposed.append(cell)
    return exposed


def tried_cost(counts, rule, pattern, sort):
    """The cost of a pattern, by the words of point 31."""
    costly = [counts[cell] for cell in pattern if not 1 <= counts[cell] < rule[0]]
    return len(costly) if sort == "cells" else len(costly) + sum(costly)
