import unittest

from cellguard.areas import AreaTree
from cellguard.errors import InvalidPlan, UnknownName

LAND = [("land", None), ("north", "land"), ("south", "land"), ("hill", "north"), ("dale", "north"),
        ("farm", "dale")]


class AreaTreeTest(unittest.TestCase):
    def setUp(self):
        self.tree = AreaTree(LAND)

    def test_names_and_root(self):
        self.assertEqual(self.tree.names(), ["land", "north", "south", "hill", "dale", "farm"])
        self.assertEqual(self.tree.root, "land")

    def test_parent(self):
        found = [self.tree.parent(name) for name in self.tree.names()]
        self.assertEqual(found, [None, "land", "land", "north", "north", "dale"])

    def test_children(self):
        self.assertEqual(self.tree.children("land"), ["north", "south"])
        self.assertEqual(self.tree.children("north"), ["hill", "dale"])
        self.assertEqual(self.tree.children("dale"), ["farm"])
        self.assertEqual(self.tree.children("south"), [])
        self.assertEqual(self.tree.children("farm"), [])

    def test_leaves(self):
        self.assertEqual(self.tree.leaves(), ["south", "hill", "farm"])

    def test_leaves_below(self):
        self.assertEqual(self.tree.leaves_below("land"), ["south", "hill", "farm"])
        self.assertEqual(self.tree.leaves_below("north"), ["hill", "farm"])
        self.assertEqual(self.tree.leaves_below("dale"), ["farm"])
        self.assertEqual(self.tree.leaves_below("south"), ["south"])
        self.assertEqual(self.tree.leaves_below("farm"), ["farm"])

    def test_leaves_are_in_the_order_of_the_list(self):
        tree = AreaTree([("r", None), ("a", "r"), ("b", "r"), ("b1", "b"), ("a1", "a"), ("c", "r"), ("b2", "b")])
        self.assertEqual(tree.leaves(), ["b1", "a1", "c", "b2"])
        self.assertEqual(tree.leaves_below("r"), ["b1", "a1", "c", "b2"])
        self.assertEqual(tree.leaves_below("b"), ["b1", "b2"])
        self.assertEqual(tree.children("r"), ["a", "b", "c"])

    def test_is_leaf(self):
        found = [self.tree.is_leaf(name) for name in self.tree.names()]
        self.assertEqual(found, [False, False, True, True, False, True])
        self.assertIs(self.tree.is_leaf("farm"), True)
        self.assertIs(self.tree.is_leaf("land"), False)

    def test_level(self):
        self.assertEqual([self.tree.level(name) for name in self.tree.names()], [0, 1, 1, 2, 2, 3])

    def test_tree_of_one_area(self):
        tree = AreaTree([("land", None)])
        self.assertEqual(tree.names(), ["land"])
        self.assertEqual(tree.root, "land")
        self.assertIsNone(tree.parent("land"))
        self.assertEqual(tree.children("land"), [])
        self.assertEqual(tree.leaves(), ["land"])
        self.assertEqual(tree.leaves_below("land"), ["land"])
        self.assertIs(tree.is_leaf("land"), True)
        self.assertEqual(tree.level("land"), 0)

    def test_deep_tree(self):
        areas = [("a0", None)] + [(f"a{k}", f"a{k - 1}") for k in range(1, 3000)]
        tree = AreaTree(areas)
        self.assertEqual(tree.level("a2999"), 2999)
        self.assertEqual(tree.leaves_below("a0"), ["a2999"])

    def test_unknown_names(self):
        for name in ("west", "", "Land", "land ", "a" * 13):
            for method in (self.tree.parent, self.tree.children, self.tree.leaves_below, self.tree.is_leaf,
                           self.tree.level):
                with self.subTest(name=name, method=method.__name__):
                    with self.assertRaises(UnknownName) as caught:
                        method(name)
                    self.assertEqual(caught.exception.name, name)

    def test_broken_lists(self):
        broken = {
            "empty": [],
            "root with a parent": [("land", "land")],
            "root with another parent": [("land", "north"), ("north", "land")],
            "second root": [("land", None), ("north", None)],
            "second root at the end": [("land", None), ("north", "land"), ("south", None)],
            "later parent": [("land", None), ("hill", "north"), ("north", "land")],
            "own parent": [("land", None), ("north", "north")],
            "missing parent": [("land", None), ("north", "sea")],
            "name twice": [("land", None), ("north", "land"), ("north", "land")],
            "name of the root twice": [("land", None), ("land", "land")],
            "name twice with other parents": [("land", None), ("a", "land"), ("b", "land"), ("b", "a")],
            "root without a name": [("", None)],
            "wrong name of the root": [("Land", None)],
            "wrong name": [("land", None), ("north 1", "land")],
            "long name": [("land", None), ("abcdefghijklm", "land")],
        }
        for what, areas in broken.items():
            with self.subTest(what):
                with self.assertRaises(InvalidPlan):
                    AreaTree(areas)

    def test_tree_copies_its_list(self):
        areas = list(LAND)
        tree = AreaTree(areas)
        areas.append(("sea", "land"))
        del areas[0]
        self.assertEqual(tree.names(), [name for name, _ in LAND])
        self.assertEqual(tree.leaves(), ["south", "hill", "farm"])

    def test_results_are_new(self):
        for read in (self.tree.names, self.tree.leaves, lambda: self.tree.children("land"),
                     lambda: self.tree.leaves_below("north"), lambda: self.tree.leaves_below("south"),
                     lambda: self.tree.children("south")):
            before = list(read())
            first = read()
            self.assertIs(type(first), list)
            first.append("sea")
            self.assertEqual(read(), before)

    def test_arguments_stay(self):
        areas = list(LAND)
        AreaTree(areas)
        self.assertEqual(areas, LAND)
