"""Equations of sets of nodes, and the hidden cells that follow from a single one of them."""

from cellguard.linking import arc_of, network_of
from cellguard.network import crossing_arcs
from cellguard.ranges import checked_flows


def equation_of(publication, table, members):
    """Return the tuple of the terms and the constant of the equation of a list of different nodes."""
    network = network_of(publication, table)
    cells = publication.cells(table)
    # The arcs of the cells are the first ones of a network, in the order of the cells.
    hidden = {number: cell for number, cell in enumerate(cells) if cells[cell] is None}
    arcs = network.arcs()
    entering, leaving = crossing_arcs(network, members)
    terms = {}
    constant = 0
    for numbers, sign in ((entering, 1), (leaving, -1)):
        for number in numbers:
            if number in hidden:
                terms[hidden[number]] = sign
            else:
                constant -= sign * arcs[number][2]
    return terms, constant


def hidden_neighbors(publication, table, network):
    """Return for each node the list of the hidden cells at it: tuples of the number and the other node."""
    neighbors = [[] for _ in range(network.nodes)]
    arcs = network.arcs()
    for cell in publication.hidden(table):
        number = arc_of(publication.plan, table, cell)
        tail, head, least, most = arcs[number]
        neighbors[tail].append((number, head))
        neighbors[head].append((number, tail))
    return neighbors


def nodes_beside(neighbors, start, left_out):
    """Return the ascending list of the nodes that hidden cells join to a node, without one of these cells."""
    found = {start: True}
    queue = [start]
    while queue:
        for number, node in neighbors[queue.pop()]:
            if number != left_out and node not in found:
                found[node] = True
                queue.append(node)
    return sorted(found)


def linear_cells(publication, table):
    """Return the list of the linearly determined cells, each with its count and the nodes that show it."""
    checked_flows(publication, table)
    network = network_of(publication, table)
    neighbors = hidden_neighbors(publication, table, network)
    found = []
    for cell in publication.hidden(table):
        number = arc_of(publication.plan, table, cell)
        tail, head, least, most = network.arcs()[number]
        members = nodes_beside(neighbors, head, number)
        # On a ring, the tail of the cell would be joined to its head along the others.
        if tail not in members:
            _, count = equation_of(publication, table, members)
            found.append((cell, count, members))
    return found


def equation_text(publication, table, members):
    """Return the text of the equation of a list of different nodes."""
    terms, constant = equation_of(publication, table, members)
    words = []
    for cell in publication.hidden(table):
        if cell in terms:
            sign = "+" if terms[cell] == 1 else "-"
            words.append(f"{sign} {cell[0]}/{cell[1]}")
    left = " ".join(words) if words else "0"
    return f"{left} = {constant}"
