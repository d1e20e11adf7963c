"""Censuses and their texts."""

from cellguard.errors import InvalidRecord, InvalidText
from cellguard.lines import is_skipped, lines_of, number_in


class Census:
    """A collection of records, in which the same record may occur many times."""

    def __init__(self, plan, records):
        self.plan = plan
        self._leaves = plan.areas.leaves()
        self._value_lists = [values for name, values in plan.attributes()]
        self._leaf_places = {leaf: place for place, leaf in enumerate(self._leaves)}
        self._value_places = []
        for values in self._value_lists:
            self._value_places.append({value: place for place, value in enumerate(values)})
        # The keys are the places of the leaf and of the values, so that they sort as point 11 asks.
        self._numbers = {}
        for record, number in records:
            self.add(record, number)

    def add(self, record, number):
        """Add a record a number of times."""
        key = self._key(record)
        if key is None:
            raise InvalidRecord("the record does not fit the plan")
        self._numbers[key] = self._numbers.get(key, 0) + number

    def number(self, record):
        """Return how often a record occurs."""
        return self._numbers.get(self._key(record), 0)

    def records(self):
        """Return the list of the tuples of a record and its number, in order."""
        found = []
        for key in sorted(self._numbers):
            if self._numbers[key] > 0:
                values = [self._value_lists[at][place] for at, place in enumerate(key[1:])]
                found.append(((self._leaves[key[0]], tuple(values)), self._numbers[key]))
        return found

    def people(self):
        """Return the number of all records."""
        return sum(self._numbers.values())

    def _key(self, record):
        area, values = record
        if area not in self._leaf_places or len(values) != len(self._value_places):
            return None
        key = [self._leaf_places[area]]
        for value, places in zip(values, self._value_places):
            if value not in places:
                return None
            key.append(places[value])
        return tuple(key)


def same_census(first, second):
    """Tell whether two censuses of the same plan are equal."""
    return first.records() == second.records()


def census_text(census):
    """Return the text of a census."""
    lines = []
    for (area, values), number in census.records():
        lines.append(" ".join([str(number), area, *values]))
    return "".join([line + "\n" for line in lines])


def record_in(line):
    """Return the record and the number that a line gives; the number is None for another form."""
    words = line.split(" ")
    if len(words) < 2:
        return None, None
    return (words[1], tuple(words[2:])), number_in(words[0])


def read_census(text, plan):
    """Return the census of a text."""
    census = Census(plan, [])
    for at, line in enumerate(lines_of(text)):
        if is_skipped(line):
            continue
        record, number = record_in(line)
        if number is None:
            raise InvalidText(at + 1)
        try:
            census.add(record, number)
        except InvalidRecord:
            raise InvalidText(at + 1) from None
    return census
