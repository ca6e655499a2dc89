import ast
import importlib
import inspect
import os
import re
import unittest

from tests.test_language import PACKAGE, package

# The interface's modules in its order: what landed, with the parameters told.
MODULES = {
    "errors": None,
    "words": {"is_name": "thing"},
    "units": {
        "is_row": "thing, many", "is_piece": "thing", "is_unit": "thing", "uses": "piece",
        "unit_faults": "unit",
    },
    "codes": {"instruction": "sense, many", "sense_at": "cells, at", "parted": "cells"},
    "objects": {"assembled": "unit", "unit_of": "thing", "is_object": "thing"},
    "asking": {"defined": "thing", "led": "thing"},
    "lines": {"is_line": "thing", "is_goal": "thing", "is_card": "thing"},
    "taking": {"members": "line, goal"},
    "naming": {"naming": "line, goal", "leads_to": "named, m, x"},
    "webs": {"is_web": "thing", "web_of": "line, goal", "leads": "web, knot"},
    "keeping": {
        "kept": "web", "road": "web, knot", "is_road": "web, knot, thing", "holders": "web, knot",
        "freed": "web, knot",
    },
    "parting": {"front": "web, knot", "is_even": "web, thing", "classes": "web"},
    "folding": {"told": "web", "bodies": "web", "main": "web", "folded": "web"},
    "bundles": {"is_bundle": "thing", "bundle_of": "line, goal"},
    "widths": {
        "branches": "bundle", "places": "bundle, long", "distance": "bundle, long, branch",
        "far": "bundle, long", "grown": "bundle, long=()", "waves": "bundle",
        "is_forced": "bundle, thing", "forced": "bundle",
    },
    "images": {"image_with": "bundle, long", "image_of": "bundle", "linked": "line, goal"},
    "readback": {"is_image": "thing", "read_back": "image", "long_in": "image"},
    "texts": {
        "read_unit": "text", "unit_text": "unit", "finished": "text", "row_at": "text, piece, n",
        "fault_rows": "text",
    },
    "apart": {"taken_apart": "image"},
    "carrying": {"covers": "line, goal, thing", "carries": "line, goal, thing"},
    "cutting": {"cut": "web, knot", "roads_apart": "web, knot"},
    "deeds": {"is_deed": "thing", "after": "line, goal, deed"},
    "listings": {"listing": "image"},
}

# Modules that the interface does not list, and behind which of its own they come.
FURTHER = {"kinds": "errors", "rows": "words", "parts": "objects", "readings": "readback"}


def order():
    names = []
    for name in MODULES:
        names.append(name)
        names += [x for x, behind in FURTHER.items() if behind == name]
    return names


class InterfaceTest(unittest.TestCase):
    def test_names_stand_in_their_files(self):
        for module, told in MODULES.items():
            made = importlib.import_module("onebase." + module)
            for name, parameters in (told or {}).items():
                with self.subTest(module=module, name=name):
                    f = getattr(made, name)
                    self.assertTrue(inspect.isfunction(f))
                    self.assertEqual(f.__module__, "onebase." + module)
                    self.assertEqual(str(inspect.signature(f)), "(" + parameters + ")")

    def test_modules_import_from_those_ahead(self):
        files = package()
        self.assertEqual(set(files), set(order()) | {"__init__"})
        for at, name in enumerate(order()):
            for node in ast.walk(ast.parse(files[name])):
                if isinstance(node, ast.ImportFrom):
                    self.assertIn(node.module.partition(".")[2], order()[:at], name)

    def test_init_defines_nothing(self):
        with open(os.path.join(PACKAGE, "__init__.py")) as f:
            tree = ast.parse(f.read())
        self.assertTrue(all(isinstance(n, ast.Expr) for n in tree.body))
        made = importlib.import_module("onebase")
        for name in vars(made):
            self.assertTrue(re.fullmatch(r"__\w+__", name) or name in order(), name)


if __name__ == "__main__":
    unittest.main()
