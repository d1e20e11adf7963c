"""The texts of publications, their reading, and the reports of publications."""

from cellguard.errors import InvalidText
from cellguard.flows import range_from
from cellguard.lines import LineReader, count_in
from cellguard.linking import arc_of, network_of, possible_flows
from cellguard.publication import Publication


def row_text(area, row):
    """Return the line of an area, given its counts with None for hidden cells."""
    return " ".join(["row", area] + ["x" if count is None else str(count) for count in row])


def publication_text(publication):
    """Return the text of a publication."""
    plan = publication.plan
    totals = publication.totals()
    lines = ["totals"] + [f"total {area} {totals[area]}" for area in totals]
    for table in publication.tables():
        cells = publication.cells(table)
        size = len(plan.classes(table))
        lines.append(f"table {table}")
        for area in plan.areas.names():
            lines.append(row_text(area, [cells[(area, number)] for number in range(size)]))
    return "".join([line + "\n" for line in lines])


def read_totals(reader, plan):
    """Return the totals that the next lines give."""
    if reader.next_line() != "totals":
        raise InvalidText(reader.taken())
    totals = {}
    for area in plan.areas.names():
        words = reader.next_words()
        total = count_in(words[-1])
        if words[:-1] != ["total", area] or total is None:
            raise InvalidText(reader.taken())
        totals[area] = total
    return totals


def read_table_name(reader, tables):
    """Return the name of the table whose rows come next; it must be one of a list."""
    words = reader.next_words()
    if len(words) != 2 or words[0] != "table" or words[1] not in tables:
        raise InvalidText(reader.taken())
    return words[1]


def read_rows(reader, plan, table):
    """Return the dict from the cells of a table to the counts that the next lines give, or None."""
    size = len(plan.classes(table))
    cells = {}
    for area in plan.areas.names():
        words = reader.next_words()
        if words[:2] != ["row", area] or len(words) != size + 2:
            raise InvalidText(reader.taken())
        for number, word in enumerate(words[2:]):
            count = count_in(word)
            if count is None and word != "x":
                raise InvalidText(reader.taken())
            cells[(area, number)] = count
    return cells


def read_publication(text, plan):
    """Return the publication of a text."""
    reader = LineReader(text)
    totals = read_totals(reader, plan)
    due = plan.tables()
    tables = {}
    while not reader.is_done():
        table = read_table_name(reader, due)
        tables[table] = read_rows(reader, plan, table)
        # Tables may be left out, but those that come must keep the order of the plan.
        due = due[due.index(table) + 1:]
    return Publication(plan, totals, tables)


def report_line(publication, table, flow):
    """Return the line of the report for a table, given some flow of its network."""
    network = network_of(publication, table)
    hidden = publication.hidden(table)
    widths = []
    for cell in hidden:
        least, greatest = range_from(network, flow, arc_of(publication.plan, table, cell))
        widths.append(greatest - least)
    narrowest = min(widths) if widths else "-"
    return f"{table} hidden {len(hidden)} determined {widths.count(0)} narrowest {narrowest}"


def report_lines(publication):
    """Return the list of the lines of the report of a publication."""
    flows = possible_flows(publication)
    return [report_line(publication, table, flows[table]) for table in publication.tables()]
