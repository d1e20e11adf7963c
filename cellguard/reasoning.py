"""Reasoning step by step: limits of the arcs of a network, narrowed by one balance at a time."""

from cellguard.errors import InvalidFlow
from cellguard.linking import network_of
from cellguard.papers import is_integer, is_way
from cellguard.ranges import checked_flows


def arc_limits(network):
    """Return the list of the tuples of the least and the most of all arcs."""
    return [(least, most) for tail, head, least, most in network.arcs()]


def balances_of(network):
    """Return for each node a tuple of the list of the arcs that begin at it and of those that end there."""
    balances = [([], []) for _ in range(network.nodes)]
    for number, (tail, head, least, most) in enumerate(network.arcs()):
        balances[tail][0].append(number)
        balances[head][1].append(number)
    return balances


def step_limit(balance, limits, number, way):
    """Return the limits that a step gives an arc, given the balance of its node; the same ones if it is not useful."""
    beginning, ending = balance
    own, others = (beginning, ending) if number in beginning else (ending, beginning)
    side = 1 if way == 1 else 0
    value = sum([limits[other][side] for other in others])
    value -= sum([limits[other][1 - side] for other in own if other != number])
    least, greatest = limits[number]
    if way == 1:
        return least, min(greatest, value)
    return max(least, value), greatest


def useful_at(node, balance, limits):
    """Return the list of the useful steps at a node, in order, given its balance."""
    beginning, ending = balance
    steps = []
    for number in sorted(beginning + ending):
        for way in (-1, 1):
            if step_limit(balance, limits, number, way) != limits[number]:
                steps.append((node, number, way))
    return steps


def first_limits(publication, table):
    """Return the list of the limits at the beginning."""
    return arc_limits(network_of(publication, table))


def is_at(network, node, number):
    """Tell whether the arc with a number begins or ends at a node."""
    arcs = network.arcs()
    return 0 <= number < len(arcs) and node in arcs[number][:2]


def made_step(network, limits, step):
    """Return the list of the limits after a step, useful or not."""
    node, number, way = step
    if not is_at(network, node, number):
        raise InvalidFlow(f"arc {number} does not begin or end at node {node}")
    made = list(limits)
    made[number] = step_limit(balances_of(network)[node], limits, number, way)
    return made


def useful_steps(network, limits):
    """Return the list of all useful steps, in order."""
    steps = []
    for node, balance in enumerate(balances_of(network)):
        steps.extend(useful_at(node, balance, limits))
    return steps


def reason(publication, table):
    """Return the tuple of final limits and a list of useful steps that lead to them."""
    checked_flows(publication, table)
    network = network_of(publication, table)
    limits = arc_limits(network)
    balances = balances_of(network)
    steps = []
    is_final = False
    while not is_final:
        made = len(steps)
        for node, balance in enumerate(balances):
            # Each of these is still useful when its turn comes, for the others only narrow what it looks at.
            useful = useful_at(node, balance, limits)
            for step in useful:
                limits[step[1]] = step_limit(balance, limits, step[1], step[2])
                steps.append(step)
        is_final = len(steps) == made
    return limits, steps


def is_step(network, step):
    """Tell whether a value is a step of a network."""
    if not isinstance(step, tuple) or len(step) != 3:
        return False
    node, number, way = step
    return is_integer(node) and is_integer(number) and is_way(way) and is_at(network, node, number)


def check_steps(publication, table, steps, limits):
    """Tell whether all steps of a list are useful when they are made, and lead to limits."""
    network = network_of(publication, table)
    balances = balances_of(network)
    reached = arc_limits(network)
    for step in steps:
        if not is_step(network, step):
            return False
        node, number, way = step
        narrower = step_limit(balances[node], reached, number, way)
        if narrower == reached[number]:
            return False
        reached[number] = narrower
    return reached == limits
