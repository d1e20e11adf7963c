"""The tree of areas."""

from cellguard.errors import InvalidPlan, UnknownName
from cellguard.names import is_name


def area_fits(parents, name, parent):
    """Tell whether an area may follow the areas of a dict from names to parents."""
    if not is_name(name) or name in parents:
        return False
    if not parents:
        return parent is None
    return parent in parents


def checked_parents(areas):
    """Return the dict from the names of a list of areas to their parents, in order."""
    parents = {}
    for name, parent in areas:
        if not area_fits(parents, name, parent):
            raise InvalidPlan(f"area {name} breaks a rule of areas")
        parents[name] = parent
    if not parents:
        raise InvalidPlan("there is no area")
    return parents


class AreaTree:
    """The tree of a list of areas."""

    def __init__(self, areas):
        self._parents = checked_parents(areas)
        self._children = {name: [] for name in self._parents}
        for name in self._parents:
            parent = self._parents[name]
            if parent is None:
                self.root = name
            else:
                self._children[parent].append(name)

    def names(self):
        """Return the names of all areas, in order."""
        return list(self._parents)

    def parent(self, name):
        """Return the name of the parent of an area, or None for the root."""
        self._check(name)
        return self._parents[name]

    def children(self, name):
        """Return the names of the children of an area, in order."""
        self._check(name)
        return list(self._children[name])

    def leaves(self):
        """Return the names of all leaves, in order."""
        return [name for name in self._parents if not self._children[name]]

    def leaves_below(self, name):
        """Return the names of the leaves below an area, in order."""
        self._check(name)
        below = {name: True}
        # Parents stand before their children, so one pass finds all that lies in the area.
        for area in self._parents:
            if self._parents[area] in below:
                below[area] = True
        return [leaf for leaf in self.leaves() if leaf in below]

    def is_leaf(self, name):
        """Tell whether an area is a leaf."""
        self._check(name)
        return not self._children[name]

    def level(self, name):
        """Return the number of the areas above an area."""
        self._check(name)
        level = 0
        area = self._parents[name]
        while area is not None:
            level += 1
            area = self._parents[area]
        return level

    def _check(self, name):
        if name not in self._parents:
            raise UnknownName(name)
