"""Plans, censuses and enumerations that several tests use."""

from itertools import product

from cellguard.census import Census
from cellguard.plan import Plan, read_plan

LAND_TEXT = (
    "area land\n"
    "area north in land\n"
    "area south in land\n"
    "area hill in north\n"
    "area dale in north\n"
    "attribute age child adult old\n"
    "attribute sex f m\n"
    "attribute work no yes\n"
    "table people age:child,adult+old sex\n"
    "table jobs work:yes,no\n"
)

LAND_CENSUS_TEXT = (
    "3 south child m no\n"
    "1 south old f no\n"
    "2 hill child f no\n"
    "4 hill adult m yes\n"
    "5 dale old f yes\n"
)

SINGLES = [["a"], ["b"]]


def land_plan():
    """A tree of three levels with two tables; `jobs` has its groups in another order."""
    return read_plan(LAND_TEXT)


def land_census():
    return Census(land_plan(), [
        (("hill", ("child", "f", "no")), 2),
        (("hill", ("adult", "m", "yes")), 4),
        (("dale", ("old", "f", "yes")), 5),
        (("south", ("child", "m", "no")), 3),
        (("south", ("old", "f", "no")), 1),
    ])


def pair_plan():
    """A small plan of three leaves whose censuses can be tried one by one."""
    return Plan(
        [("top", None), ("left", "top"), ("x", "left"), ("y", "left"), ("z", "top")],
        [("one", ["a", "b"]), ("two", ["a", "b"])],
        [("first", [("one", SINGLES)]), ("second", [("two", SINGLES)])],
    )


def splits(total, parts):
    """All lists of a number of integers from 0 on with the given sum."""
    if parts == 1:
        return [[total]]
    return [[head, *rest] for head in range(total + 1) for rest in splits(total - head, parts - 1)]


def all_censuses(plan, leaf_totals):
    """All censuses of a plan that have the given totals of the leaves."""
    kinds = list(product(*[values for _, values in plan.attributes()]))
    choices = []
    for leaf, total in leaf_totals.items():
        records = [(leaf, kind) for kind in kinds]
        choices.append([list(zip(records, split)) for split in splits(total, len(kinds))])
    for choice in product(*choices):
        yield Census(plan, [entry for part in choice for entry in part])


def all_flows(nodes, arcs):
    """All flows of a network, found by trying all values."""
    for values in product(*[range(least, most + 1) for _, _, least, most in arcs]):
        surplus = [0] * nodes
        for (tail, head, _, _), value in zip(arcs, values):
            surplus[tail] -= value
            surplus[head] += value
        if not any(surplus):
            yield list(values)


def is_closed(nodes, arcs, members):
    """Whether the sums of point 15 show that a set is closed."""
    entering = sum(arc[2] for arc in arcs if arc[1] in members and arc[0] not in members)
    leaving = sum(arc[3] for arc in arcs if arc[0] in members and arc[1] not in members)
    return entering > leaving


def shown_bound(arcs, arc, way, members):
    """The bound of point 16, or None if the arc does not cross the set as it must."""
    enters = [k for k, (u, v, _, _) in enumerate(arcs) if v in members and u not in members]
    leaves = [k for k, (u, v, _, _) in enumerate(arcs) if u in members and v not in members]
    if way == 1:
        if arc not in enters:
            return None
        return sum(arcs[k][3] for k in leaves) - sum(arcs[k][2] for k in enters if k != arc)
    if arc not in leaves:
        return None
    return sum(arcs[k][2] for k in enters) - sum(arcs[k][3] for k in leaves if k != arc)


def is_right(network, arc, paper):
    """Whether a paper is right, by the words of point 23."""
    way, bound, members = paper
    arcs = network.arcs()
    if members is None:
        return arcs[arc][3] <= bound if way == 1 else arcs[arc][2] >= bound
    if type(members) is not list or members != sorted(set(members)):
        return False
    if not all(0 <= node < network.nodes for node in members):
        return False
    shown = shown_bound(arcs, arc, way, members)
    if shown is None:
        return False
    return shown <= bound if way == 1 else shown >= bound
