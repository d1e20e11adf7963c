"""Dossiers of publications: the papers for all hidden cells, and their texts."""

from cellguard.counting import cells_of
from cellguard.errors import InvalidText
from cellguard.lines import count_in, lines_of
from cellguard.linking import arc_of, network_of, possible_flows
from cellguard.papers import is_cell, is_right
from cellguard.ranges import papers_from

WAYS = {"least": -1, "most": 1}
WORDS_BEFORE_MEMBERS = 6


def dossier(publication):
    """Return the dossier of a publication."""
    flows = possible_flows(publication)
    entries = []
    for table in publication.tables():
        network = network_of(publication, table)
        for cell in publication.hidden(table):
            arc = arc_of(publication.plan, table, cell)
            entries.extend([(table, cell, paper) for paper in papers_from(network, flows[table], arc)])
    return entries


def entry_text(entry):
    """Return the line of a tuple of a dossier."""
    table, (area, number), (way, bound, members) = entry
    words = [table, area, str(number), "most" if way == 1 else "least", str(bound)]
    if members is None:
        words.append("own")
    else:
        words.append("nodes")
        words.extend([str(node) for node in members])
    return " ".join(words)


def dossier_text(entries):
    """Return the text of a dossier."""
    return "".join([entry_text(entry) + "\n" for entry in entries])


def members_in(words):
    """Return a tuple that tells whether the words of a place have a right form, and the members."""
    if words == ["own"]:
        return True, None
    members = [count_in(word) for word in words[1:]]
    return words[0] == "nodes" and None not in members, members


def entry_in(plan, words):
    """Return the tuple of a dossier that the words of a line give, or None if they have another form."""
    if len(words) < WORDS_BEFORE_MEMBERS or words[0] not in plan.tables() or words[3] not in WAYS:
        return None
    cell = (words[1], count_in(words[2]))
    bound = count_in(words[4])
    is_place, members = members_in(words[5:])
    if cell not in cells_of(plan, words[0]) or bound is None or not is_place:
        return None
    return words[0], cell, (WAYS[words[3]], bound, members)


def read_dossier(text, plan):
    """Return the list of the tuples of the text of a dossier."""
    entries = []
    for at, line in enumerate(lines_of(text)):
        entry = entry_in(plan, line.split(" "))
        if entry is None:
            raise InvalidText(at + 1)
        entries.append(entry)
    return entries


def is_right_entry(publication, networks, entry):
    """Tell whether a tuple has a right paper for a cell of a publication, given the networks of its tables."""
    if not isinstance(entry, tuple) or len(entry) != 3:
        return False
    table, cell, paper = entry
    if table not in networks or not is_cell(cells_of(publication.plan, table), cell):
        return False
    return is_right(networks[table], arc_of(publication.plan, table, cell), paper)


def check_dossier(publication, entries):
    """Tell whether all papers of a list of tuples are right, and each hidden cell has papers of both ways."""
    networks = {table: network_of(publication, table) for table in publication.tables()}
    if not all([is_right_entry(publication, networks, entry) for entry in entries]):
        return False
    shown = {(table, cell, paper[0]): True for table, cell, paper in entries}
    for table in publication.tables():
        for cell in publication.hidden(table):
            if (table, cell, 1) not in shown or (table, cell, -1) not in shown:
                return False
    return True
