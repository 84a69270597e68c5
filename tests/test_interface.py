"""The interface: each name is defined in its file, with its arguments and their values."""

import importlib
import inspect
import unittest

# For each file, each function with its arguments, and the values of those that need not be handed in.
FUNCTIONS = {
    "kinds": {"is_number": "thing", "is_word": "thing", "is_operand": "thing", "is_objects": "thing"},
    "faces": {"cells_in": "code", "is_address": "code thing", "face": "code address", "is_sure": "code address",
              "can_fault": "address"},
    "codes": {"is_code": "thing", "is_row": "code thing", "is_end": "code name thing", "routines_of": "code",
              "names_in": "code", "places_in": "code", "blocks_of": "code name", "is_place": "code thing",
              "row_at": "code place"},
    "operands": {"is_start": "code thing", "worth": "operand names=None", "cell_by": "code address names=None"},
    "graphs": {"nexts": "code name block", "befores": "code name block", "reached": "code name"},
    "dominance": {"dominates": "code name over under", "dominators": "code name block", "nearest": "code name block",
                  "frontier": "code name block", "frontier_again": "code name blocks"},
    "dompapers": {"around": "code name over under", "fence": "code name over under"},
    "domchecker": {"lets_around": "code name over under thing", "lets_fence": "code name over under thing"},
    "running": {"run": "code start=None fuel=100", "trail": "code start=None fuel=100"},
    "waychecker": {"lets_way": "code thing", "state_of": "code thing", "shows": "code thing"},
    "freeing": {"goes_on": "code thing", "met_places": "code", "way_to": "code place"},
    "passing": {"made_at": "code place cell", "summary": "code name cell"},
    "beginnings": {"begins": "code name cell"},
    "sources": {"sources": "code place cell=None"},
    "tables": {"table_of": "code cell"},
    "tablechecker": {"lets_table": "code cell thing"},
    "sourcepapers": {"source_paper": "code place source", "none_paper": "code place source"},
    "sourcechecker": {"lets_source": "code place source thing", "lets_none": "code place source thing"},
    "versions": {"merged_blocks": "code name", "versions_of": "code name", "version_at": "code place",
                 "parts_of": "code name version"},
    "walking": {"walked": "code place cell", "walked_sources": "code place cell=None"},
    "dead": {"dead": "code shown=None"},
    "deadpapers": {"live_or_dead": "code place shown=None"},
    "deadchecker": {"lets_live": "code place shown thing", "lets_dead": "code place shown thing"},
    "firsts": {"first_reads": "code", "first_way": "code place"},
    "holding": {"hold_table": "code name cell"},
    "holdchecker": {"lets_holds": "code name cell thing"},
    "turnings": {"turned": "code turning"},
    "turnchecker": {"lets_turning": "code shown thing", "lets_chain": "code shown thing"},
    "leaving": {"leave": "code place shown=None"},
    "carrying": {"carry": "code place name=None"},
    "rereading": {"reread": "code place"},
    "readings": {"read_row": "text line=0", "read_code": "text", "read_start": "text", "read_place": "text"},
    "lines": {"shown_row": "row", "shown_code": "code", "shown_start": "start", "shown_place": "place"},
}

# For each class, the file that defines it, and its own methods with their arguments.
CLASSES = {
    ("shop", "Shop"): {"__init__": "self code shown=None", "put_row": "self place row", "take_row": "self place", "change_row": "self place row",
                       "take_code": "self code", "turn": "self turning", "back": "self times=1", "code_now": "self", "then": "self k", "edits": "self",
                       "reckoned": "self", "summary_of": "self name cell", "sources_of": "self place cell=None", "dead_now": "self", "__len__": "self",
                       "__str__": "self", "__eq__": "self other"},
    ("desk", "Desk"): {"__init__": "self", "say": "self row"},
}


class TestInterface(unittest.TestCase):
    def test_functions_are_defined_in_their_files(self):
        for name in FUNCTIONS:
            module = importlib.import_module("storeways." + name)
            for function in FUNCTIONS[name]:
                self.assertTrue(inspect.isfunction(getattr(module, function)), function)
                self.assertEqual(getattr(module, function).__module__, "storeways." + name)

    def test_arguments(self):
        for name in FUNCTIONS:
            module = importlib.import_module("storeways." + name)
            for function in FUNCTIONS[name]:
                told = inspect.signature(getattr(module, function)).parameters.values()
                self.assertEqual(" ".join([str(argument) for argument in told]), FUNCTIONS[name][function], function)
                for argument in told:
                    self.assertEqual(argument.kind, argument.POSITIONAL_OR_KEYWORD, function)

    def test_classes(self):
        for (name, called), methods in CLASSES.items():
            one = getattr(importlib.import_module("storeways." + name), called)
            self.assertTrue(inspect.isclass(one) and one.__module__ == "storeways." + name)
            for method, arguments in methods.items():
                told = inspect.signature(one.__dict__[method]).parameters.values()
                self.assertEqual(" ".join([str(argument) for argument in told]), arguments, method)


if __name__ == "__main__":
    unittest.main()
