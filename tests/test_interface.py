import ast
import importlib
import inspect
import os
import re
import unittest

from tests.test_language import PACKAGE, package

# The interface's modules in its order: what landed, with the parameters told.
MODULES = {
    "errors": None,
    "words": {"is_name": "thing"},
    "units": {
        "is_row": "thing, many", "is_piece": "thing", "is_unit": "thing", "uses": "piece",
        "unit_faults": "unit",
    },
    "codes": {"instruction": "sense, many", "sense_at": "cells, at", "parted": "cells"},
    "objects": {"assembled": "unit", "unit_of": "thing", "is_object": "thing"},
    "asking": {"defined": "thing", "led": "thing"},
    "lines": {"is_line": "thing", "is_goal": "thing", "is_card": "thing"},
    "taking": {"members": "line, goal"},
    "naming": {"naming": "line, goal", "leads_to": "named, m, x"},
    "webs": {"is_web": "thing", "web_of": "line, goal", "leads": "web, knot"},
    "keeping": {
        "kept": "web", "road": "web, knot", "is_road": "web, knot, thing", "holders": "web, knot",
        "freed": "web, knot",
    },
    "parting": {"front": "web, knot", "is_even": "web, thing", "classes": "web"},
    "folding": {"told": "web", "bodies": "web", "main": "web", "folded": "web"},
    "bundles": {"is_bundle": "thing", "bundle_of": "line, goal"},
    "widths": {
        "branches": "bundle", "places": "bundle, long", "distance": "bundle, long, branch",
        "far": "bundle, long", "grown": "bundle, long=()", "waves": "bundle",
        "is_forced": "bundle, thing", "forced": "bundle",
    },
    "images": {"image_with": "bundle, long", "image_of": "bundle", "linked": "line, goal"},
    "readback": {"is_image": "thing", "read_back": "image", "long_in": "image"},
    "texts": {
        "read_unit": "text", "unit_text": "unit", "finished": "text", "row_at": "text, piece, n",
        "fault_rows": "text",
    },
    "apart": {"taken_apart": "image"},
    "carrying": {"covers": "line, goal, thing", "carries": "line, goal, thing"},
    "cutting": {"cut": "web, knot", "roads_apart": "web, knot"},
    "deeds": {"is_deed": "thing", "after": "line, goal, deed"},
    "listings": {"listing": "image"},
    "loading": {
        "card_of": "image", "scope": "program, libraries", "beginnings": "program, libraries",
        "bindings": "program, libraries", "is_let": "program, libraries",
        "are_bases": "program, libraries, thing", "bases_for": "program, libraries",
        "memory": "program, libraries, bases=None",
    },
    "meaning": {
        "is_world": "thing", "namings": "world", "instances": "world", "where": "world, instance, name",
    },
    "playing": {"run_world": "world, inputs, most"},
    "traces": {"body_at": "image, position", "lies_in": "trace, lots"},
    "machine": {"run_images": "program, libraries, inputs, most, bases=None, late=False"},
    "desk": {},
    "editions": {
        "is_shelf": "thing", "shelf_bound": "shelf", "shelf_begins": "shelf", "fits": "shelf, card",
        "may_replace": "old, new", "apart": "old, new", "is_apart": "old, new, thing",
        "exchanged": "program, libraries, image",
    },
    "files": {"tree_cells": "tree", "tree_of": "cells", "file_of": "thing", "read_file": "cells"},
    "plainlines": {"needed": "line, goal"},
    "orders": {
        "order": "line, goal", "is_order": "line, goal, thing", "order_with": "line, goal, first, second",
    },
    "grouping": {"groups": "line, goal", "is_groups": "line, goal, thing", "grouped": "line, groups"},
    "loose": {"loose": "line, goal, lots, order"},
    "lots": {"lots": "line, goal", "bars": "line, goal"},
    "lotpapers": {"lot_with": "line, goal, lot", "is_lot_with": "line, goal, lot, thing"},
    "moving": {"moved": "world, machine, images, bases=None"},
    "patches": {"patch": "old, new", "patched": "old, patch", "rifts": "old, new", "is_rifts": "old, new, thing"},
    "relinking": {"touched": "line, goal, deed"},
    "roadwords": {"behind": "web, knot, word", "tells": "web, one, other, word", "word_apart": "web, one, other"},
    "rooms": {"room": "bundle, b, n"},
    "shapes": {"shape": "web, knot, deep"},
    "sizes": {"weight": "web, parting", "paper": "web", "is_paper": "web, parting, thing"},
    "swapping": {"swaps": "line, goal, one, other", "is_swaps": "line, goal, one, other, thing"},
    "wantpapers": {"want_paper": "line, goal", "is_want_paper": "line, goal, thing"},
}

# The interface's classes, by their files: the parameters of each, and its methods with theirs.
CLASSES = {
    "playing": {"Play": ("world, inputs", {"step": "", "state": ""})},
    "machine": {"Machine": ("program, libraries, inputs, bases=None, late=False", {
        "step": "", "go": "rows", "copy": "", "state": "", "held": "", "spot": "address"})},
    "desk": {"Desk": ("", {"say": "line"})},
    "relinking": {"Relinker": ("line, goal", {"line": "", "goal": "", "do": "deed", "undo": "", "image": "", "release": ""})},
}

# Modules that the interface does not list, and behind which of its own they come.
FURTHER = {"kinds": "errors", "rows": "words", "parts": "objects", "readings": "readback"}


def order():
    names = []
    for name in MODULES:
        names.append(name)
        names += [x for x, behind in FURTHER.items() if behind == name]
    return names


class InterfaceTest(unittest.TestCase):
    def test_names_stand_in_their_files(self):
        for module, told in MODULES.items():
            made = importlib.import_module("onebase." + module)
            for name, parameters in (told or {}).items():
                with self.subTest(module=module, name=name):
                    f = getattr(made, name)
                    self.assertTrue(inspect.isfunction(f))
                    self.assertEqual(f.__module__, "onebase." + module)
                    self.assertEqual(str(inspect.signature(f)), "(" + parameters + ")")

    def test_classes_stand_in_their_files_with_their_methods(self):
        for module, told in CLASSES.items():
            made = importlib.import_module("onebase." + module)
            for name, (parameters, methods) in told.items():
                with self.subTest(module=module, name=name):
                    held = getattr(made, name)
                    self.assertTrue(inspect.isclass(held))
                    self.assertEqual(held.__module__, "onebase." + module)
                    self.assertEqual(str(inspect.signature(held)), "(" + parameters + ")")
                    for method, more in methods.items():
                        f = vars(held)[method]
                        self.assertTrue(inspect.isfunction(f))
                        self.assertEqual(
                            str(inspect.signature(f)), "(" + ", ".join(["self"] + [more] * bool(more)) + ")")

    def test_modules_import_from_those_ahead(self):
        files = package()
        self.assertEqual(set(files), set(order()) | {"__init__"})
        for at, name in enumerate(order()):
            for node in ast.walk(ast.parse(files[name])):
                if isinstance(node, ast.ImportFrom):
                    self.assertIn(node.module.partition(".")[2], order()[:at], name)

    def test_init_defines_nothing(self):
        with open(os.path.join(PACKAGE, "__init__.py")) as f:
            tree = ast.parse(f.read())
        self.assertTrue(all(isinstance(n, ast.Expr) for n in tree.body))
        made = importlib.import_module("onebase")
        for name in vars(made):
            self.assertTrue(re.fullmatch(r"__\w+__", name) or name in order(), name)


if __name__ == "__main__":
    unittest.main()
