"""The names and arguments of the interface, each defined in the file under which it is listed."""

import importlib
import inspect
import unittest

import samples
from cellguard.desk import Desk
from cellguard.network import Network
from cellguard.office import Office
from cellguard.publication import publish

FUNCTIONS = {
    "names": {"is_name": "text"},
    "plan": {"plan_text": "plan", "read_plan": "text"},
    "census": {"same_census": "first second", "census_text": "census", "read_census": "text plan"},
    "counting": {"cells_of": "plan table", "counts_of": "census table", "totals_of": "census",
                 "counts_fit": "plan table counts totals"},
    "network": {"is_flow": "network values", "upper_bound": "network arc members", "lower_bound": "network arc members"},
    "flows": {"find_flow": "network", "closed_set": "network", "extreme_flow": "network arc way",
              "flow_range": "network arc"},
    "publication": {"publish": "census patterns", "agrees": "census publication"},
    "linking": {"network_of": "publication table", "arc_of": "plan table cell", "is_possible": "publication",
                "census_from": "publication counts"},
    "ranges": {"cell_range": "publication table cell", "determined_cells": "publication table",
               "extreme_census": "publication table cell way", "range_papers": "publication table cell"},
    "papers": {"check_paper": "publication table cell paper"},
    "pricing": {"upper_price": "network weights potentials", "lower_price": "network weights potentials",
                "best_flow": "network weights way"},
    "sums": {"sum_range": "publication table weights", "sum_census": "publication table weights way",
             "sum_papers": "publication table weights", "check_sum_paper": "publication table weights paper"},
    "rules": {"protected_cells": "census table rule", "wanted_range": "census table rule cell",
              "exposed_cells": "census table rule pattern", "is_safe": "census table rule pattern",
              "pattern_cost": "census table rule pattern sort"},
    "hiding": {"tight_pattern": "census table rule sort=cells", "tightened": "census table rule pattern"},
    "leastcost": {"least_pattern": "census table rule sort=cells most=14"},
    "costpapers": {"check_cost": "census table rule sort bound paper", "paper_size": "paper"},
    "rounding": {"rounding_network": "census table base", "rounded_table": "census table base",
                 "is_rounded": "census table base counts totals",
                 "rounded_range": "plan table base counts totals cell",
                 "rounded_papers": "plan table base counts totals cell",
                 "check_rounded_paper": "plan table base counts totals cell paper"},
    "pubtext": {"publication_text": "publication", "read_publication": "text plan", "report_lines": "publication"},
    "groups": {"group_network": "publication table group", "group_range": "publication table group cell",
               "group_census": "publication table group cell way", "group_papers": "publication table group cell",
               "check_group_paper": "publication table group cell paper"},
    "onefold": {"exposed_to_one": "census table rule pattern", "tight_to_one": "census table rule"},
    "dossiers": {"dossier": "publication", "dossier_text": "entries", "read_dossier": "text plan",
                 "check_dossier": "publication entries"},
    "listing": {"all_counts": "publication table", "number_of_counts": "publication table most=10000"},
    "coarser": {"derived_ranges": "publication table merging", "suits": "census attribute grouping threshold",
                "finest_grouping": "census attribute threshold"},
    "equations": {"equation_of": "publication table members", "linear_cells": "publication table",
                  "equation_text": "publication table members"},
    "saving": {"office_text": "office", "restored_office": "text census rules"},
    "swapping": {"swapped": "census swaps", "disguised_cells": "census table rule swaps",
                 "first_swap": "census table cell"},
    "reasoning": {"first_limits": "publication table", "made_step": "network limits step",
                  "useful_steps": "network limits", "reason": "publication table",
                  "check_steps": "publication table steps limits"},
    "bands": {"band_of": "count base", "banded_network": "census table pattern base",
              "banded_range": "census table pattern base cell", "banded_census": "census table pattern base cell way",
              "is_safe_banded": "census table rule pattern base", "least_base": "census table rule pattern bases",
              "banded_text": "census table pattern base"},
}

CLASSES = {
    "errors": {
        "CellguardError": {}, "InvalidText": {"__init__": "line"}, "UnknownName": {"__init__": "name"},
        "InvalidPlan": {}, "InvalidRecord": {}, "InvalidPattern": {}, "InvalidPublication": {}, "InvalidFlow": {},
        "Refused": {}, "TooLarge": {},
    },
    "areas": {"AreaTree": {"__init__": "areas", "names": "", "parent": "name", "children": "name", "leaves": "",
                           "leaves_below": "name", "is_leaf": "name", "level": "name"}},
    "plan": {"Plan": {"__init__": "areas attributes tables", "attributes": "", "tables": "", "classes": "table",
                      "dimensions": "table", "class_of": "table values"}},
    "census": {"Census": {"__init__": "plan records", "add": "record number", "number": "record", "records": "",
                          "people": ""}},
    "network": {"Network": {"__init__": "nodes arcs", "arcs": ""}},
    "office": {"Office": {"__init__": "census rules", "release": "table pattern",
                          "release_least": "table sort=cells most=14", "ask": "table cell", "known": "", "log": ""}},
    "publication": {"Publication": {"__init__": "plan totals tables", "totals": "", "tables": "", "cells": "table",
                                    "hidden": "table"}},
    "service": {"Service": {"__init__": "census publication width=", "guarded": "", "is_harmless": "table cell",
                            "ask": "table cell", "known": ""}},
    "desk": {"Desk": {"__init__": "census rules most=14", "answer": "line", "run": "lines"}},
}


def arguments(function):
    """The names of the arguments; the ones that are passed by keyword with their defaults."""
    found = []
    for name, parameter in inspect.signature(function).parameters.items():
        if parameter.kind == parameter.KEYWORD_ONLY:
            name = f"{name}=" if parameter.default is parameter.empty else f"{name}={parameter.default}"
        found.append(name)
    return found


class InterfaceTest(unittest.TestCase):
    def test_functions(self):
        for file, functions in FUNCTIONS.items():
            module = importlib.import_module(f"cellguard.{file}")
            for name, wanted in functions.items():
                with self.subTest(f"{file}.{name}"):
                    function = getattr(module, name)
                    self.assertTrue(inspect.isfunction(function))
                    self.assertEqual(function.__module__, f"cellguard.{file}")
                    self.assertEqual(arguments(function), wanted.split())

    def test_classes(self):
        for file, classes in CLASSES.items():
            module = importlib.import_module(f"cellguard.{file}")
            for name, methods in classes.items():
                found = getattr(module, name)
                self.assertTrue(inspect.isclass(found))
                self.assertEqual(found.__module__, f"cellguard.{file}")
                for method, wanted in methods.items():
                    with self.subTest(f"{file}.{name}.{method}"):
                        self.assertIn(method, vars(found))
                        self.assertEqual(arguments(vars(found)[method])[1:], wanted.split())

    def test_attributes(self):
        census = samples.land_census()
        self.assertEqual(census.plan.areas.root, "land")
        self.assertIs(publish(census, {}).plan, census.plan)
        self.assertEqual(Network(3, []).nodes, 3)
        self.assertIsInstance(Desk(census, {"people": (1, 0, 0), "jobs": (1, 0, 0)}).office, Office)
