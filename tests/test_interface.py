"""Tests that all names of the interface are there, with their arguments, defined where they are listed."""

import ast
import importlib
import inspect
import pathlib
import unittest

FOLDER = pathlib.Path(__file__).resolve().parent.parent / "parkedrows"

INTERFACE = {
    "rows": "are_wishes(value) is_parked(value) spots_of(row) cars_at(row) displacement(row) lucky_cars(row) "
            "is_prime(row) put_in_order(row)",
    "rowlists": "parked_rows(cars) rising_rows(cars) row_number(row) row_with(cars,number) count_parked(cars) "
                "count_rising(cars) count_prime(cars) count_first(cars,wish)",
    "circles": "is_ring_row(value) ring_spots(value) ring_free(value) ring_turned(value,steps) parked_turn(value)",
    "trees": "is_tree(value) children_of(tree,corner) above_of(tree,corner) tree_leaves(tree) tree_overtakings(tree) "
             "code_of(tree) tree_of_code(code) swung(tree,corner,other)",
    "treerows": "tree_by_queue(row) tree_by_stack(row) row_by_queue(tree) row_by_stack(tree) queue_of(tree) "
                "stack_of(tree)",
    "paths": "is_path(value) all_paths(cars) path_steps(path) path_by_steps(value) path_area(path) "
             "meeting_pairs(path) path_cells(path) bounce_spots(path) bounce(path)",
}


class TestInterface(unittest.TestCase):
    def test_functions_and_their_arguments(self):
        for module, listed in INTERFACE.items():
            found = importlib.import_module("parkedrows." + module)
            for told in listed.split():
                name, names = told.rstrip(")").split("(")
                function = getattr(found, name)
                self.assertTrue(inspect.isfunction(function), told)
                self.assertEqual("parkedrows." + module, function.__module__, told)
                parameters = inspect.signature(function).parameters.values()
                self.assertEqual(names.split(","), [parameter.name for parameter in parameters], told)
                for parameter in parameters:
                    self.assertIs(inspect.Parameter.empty, parameter.default, told)

    def test_defined_in_the_file_that_lists_them(self):
        for module, listed in INTERFACE.items():
            tree = ast.parse((FOLDER / (module + ".py")).read_text())
            defined = [node.name for node in tree.body if isinstance(node, ast.FunctionDef)]
            for told in listed.split():
                self.assertEqual(1, defined.count(told.split("(")[0]), told)
