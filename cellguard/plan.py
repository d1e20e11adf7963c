"""Plans of areas, attributes and tables, and their texts."""

from cellguard.areas import AreaTree, area_fits
from cellguard.errors import InvalidPlan, InvalidRecord, InvalidText, UnknownName
from cellguard.lines import is_skipped, lines_of
from cellguard.names import is_name


def attribute_fits(attributes, name, values):
    """Tell whether an attribute may follow those of a dict from names to values."""
    if not is_name(name) or name in attributes:
        return False
    if len(values) < 2 or len(set(values)) < len(values):
        return False
    return all([is_name(value) for value in values])


def is_grouping(values, grouping):
    """Tell whether a list of groups has each of the values exactly once, and no empty group."""
    if not all([len(group) > 0 for group in grouping]):
        return False
    return sorted([value for group in grouping for value in group]) == sorted(values)


def table_fits(attributes, tables, name, dimensions):
    """Tell whether a table may follow those of a dict from names to dimensions."""
    if not is_name(name) or name in tables:
        return False
    used = {attribute: True for table in tables for attribute, grouping in tables[table]}
    classes = 1
    for attribute, grouping in dimensions:
        if attribute not in attributes or attribute in used:
            return False
        if not is_grouping(attributes[attribute], grouping):
            return False
        used[attribute] = True
        classes *= len(grouping)
    # A table without a dimension has one class here, and is turned away with the others.
    return classes >= 2


def copied_dimensions(dimensions):
    """Return a copy of a list of dimensions, with all lists inside it."""
    return [(attribute, [list(group) for group in grouping]) for attribute, grouping in dimensions]


def checked_attributes(attributes):
    """Return the dict from the names of a list of attributes to copies of their values."""
    checked = {}
    for name, values in attributes:
        if not attribute_fits(checked, name, values):
            raise InvalidPlan(f"attribute {name} breaks a rule of attributes")
        checked[name] = list(values)
    if not checked:
        raise InvalidPlan("there is no attribute")
    return checked


def checked_tables(attributes, tables):
    """Return the dict from the names of a list of tables to copies of their dimensions."""
    checked = {}
    for name, dimensions in tables:
        if not table_fits(attributes, checked, name, dimensions):
            raise InvalidPlan(f"table {name} breaks a rule of tables")
        checked[name] = copied_dimensions(dimensions)
    if not checked:
        raise InvalidPlan("there is no table")
    return checked


def group_names(grouping):
    """Return the names of the groups of a grouping, in order."""
    return ["+".join(group) for group in grouping]


def class_names(dimensions):
    """Return the names of the classes of a list of dimensions, in order."""
    first = dimensions[0]
    names = group_names(first[1])
    for attribute, grouping in dimensions[1:]:
        names = [f"{name}/{group}" for name in names for group in group_names(grouping)]
    return names


def group_numbers(grouping):
    """Return the dict from the values of a grouping to the numbers of their groups."""
    return {value: number for number, group in enumerate(grouping) for value in group}


class Plan:
    """A plan of areas, attributes and tables."""

    def __init__(self, areas, attributes, tables):
        self.areas = AreaTree(areas)
        self._attributes = checked_attributes(attributes)
        self._tables = checked_tables(self._attributes, tables)
        self._classes = {table: class_names(self._tables[table]) for table in self._tables}
        self._scales = {table: self._scale(table) for table in self._tables}

    def attributes(self):
        """Return the list of the attributes, as they were given."""
        return [(name, list(self._attributes[name])) for name in self._attributes]

    def tables(self):
        """Return the names of the tables, in order."""
        return list(self._tables)

    def classes(self, table):
        """Return the names of the classes of a table, in order."""
        self._check(table)
        return list(self._classes[table])

    def dimensions(self, table):
        """Return the list of the dimensions of a table, as they were given."""
        self._check(table)
        return copied_dimensions(self._tables[table])

    def class_of(self, table, values):
        """Return the number of the class of a record with these values."""
        self._check(table)
        if not self._has_values(values):
            raise InvalidRecord("the values do not fit the attributes")
        number = 0
        for place, groups, size in self._scales[table]:
            number = number * size + groups[values[place]]
        return number

    def _check(self, table):
        if table not in self._tables:
            raise UnknownName(table)

    def _scale(self, table):
        # For each dimension: where its value stands in a record, the groups of values, their number.
        places = {name: place for place, name in enumerate(self._attributes)}
        scale = []
        for attribute, grouping in self._tables[table]:
            scale.append((places[attribute], group_numbers(grouping), len(grouping)))
        return scale

    def _has_values(self, values):
        if len(values) != len(self._attributes):
            return False
        return all([value in self._attributes[name] for value, name in zip(values, self._attributes)])


def dimension_text(values, attribute, grouping):
    """Return the word for a dimension, given all values of its attribute."""
    if grouping == [[value] for value in values]:
        return attribute
    groups = ",".join(group_names(grouping))
    return f"{attribute}:{groups}"


def plan_text(plan):
    """Return the text of a plan."""
    lines = []
    for area in plan.areas.names():
        parent = plan.areas.parent(area)
        lines.append(f"area {area}" if parent is None else f"area {area} in {parent}")
    value_lists = {}
    for name, values in plan.attributes():
        value_lists[name] = values
        lines.append(" ".join(["attribute", name, *values]))
    for table in plan.tables():
        words = ["table", table]
        for attribute, grouping in plan.dimensions(table):
            words.append(dimension_text(value_lists[attribute], attribute, grouping))
        lines.append(" ".join(words))
    return "".join([line + "\n" for line in lines])


def dimension_in(attributes, word):
    """Return the dimension that a word stands for, whether it fits the attributes or not."""
    attribute, colon, groups = word.partition(":")
    if colon == "":
        return attribute, [[value] for value in attributes.get(attribute, [])]
    return attribute, [group.split("+") for group in groups.split(",")]


class PlanReader:
    """The parts of a plan text, as far as it was read."""

    def __init__(self):
        self._areas = {}
        self._attributes = {}
        self._tables = {}

    def takes(self, words):
        """Take the part of a line, given its words, or return False if it may not stand here."""
        if len(words) < 2:
            return False
        if words[0] == "area":
            return self._takes_area(words)
        if words[0] == "attribute":
            return self._takes_attribute(words[1], words[2:])
        return words[0] == "table" and self._takes_table(words[1], words[2:])

    def lacks_part(self):
        """Tell whether there is no area, no attribute or no table."""
        return not self._areas or not self._attributes or not self._tables

    def result(self):
        """Return the plan."""
        areas = list(self._areas.items())
        return Plan(areas, list(self._attributes.items()), list(self._tables.items()))

    def _takes_area(self, words):
        if self._attributes or self._tables:
            return False
        parent = None
        if len(words) == 4 and words[2] == "in":
            parent = words[3]
        elif len(words) != 2:
            return False
        if not area_fits(self._areas, words[1], parent):
            return False
        self._areas[words[1]] = parent
        return True

    def _takes_attribute(self, name, values):
        if self._tables or not attribute_fits(self._attributes, name, values):
            return False
        self._attributes[name] = values
        return True

    def _takes_table(self, name, words):
        dimensions = [dimension_in(self._attributes, word) for word in words]
        if not table_fits(self._attributes, self._tables, name, dimensions):
            return False
        self._tables[name] = dimensions
        return True


def read_plan(text):
    """Return the plan of a text."""
    lines = lines_of(text)
    reader = PlanReader()
    for at, line in enumerate(lines):
        if not is_skipped(line) and not reader.takes(line.split(" ")):
            raise InvalidText(at + 1)
    if reader.lacks_part():
        raise InvalidText(len(lines) + 1)
    return reader.result()
