"""The form of the package: its files, its interface, and the rules of its language that are easy to count."""

import ast
import importlib
import inspect
import os
import unittest

ROOT = os.path.dirname(os.path.dirname(os.path.abspath(__file__)))
PACKAGE = os.path.join(ROOT, "nextalive")
LIBRARY = ("heapq", "math", "itertools", "collections")

# The parameters of each function and method, as the document shows them.
INTERFACE = {
    "errors": {
        "HouseError": None,
        "BadHouse": "number",
        "BadOrder": "order",
        "NoFall": "machine",
        "NoRise": "machine",
        "TooManyDown": "most",
        "NoWay": "needed",
        "TooMany": "limit",
        "Unlike": "sizes",
        "NothingDone": "",
    },
    "houses": {
        "House": "strengths, services",
        "House.strengths": "self",
        "House.services": "self",
        "House.with_order": "self, service, order",
        "House.__len__": "self",
        "House.__eq__": "self, other",
    },
    "runs": {
        "Run": "house",
        "Run.fall": "self, machine",
        "Run.rise": "self, machine",
        "Run.picture": "self",
        "Run.load": "self, machine",
        "Run.events": "self",
        "Run.fork": "self",
        "run_of": "house, history",
        "is_history": "house, value, *, most=5",
    },
    "places": {
        "can_be": "house, service, place, most",
        "least_events": "house, service, place",
        "way_to": "house, service, place, most",
    },
    "behind": {
        "behind": "house, service, down, most",
        "history_to": "house, service, down, place, most",
        "is_settled": "house, most",
        "unsettled": "house, most",
    },
    "worst": {
        "gather": "house, machine, services, most",
        "is_bar": "house, machine, most, value",
        "worst_load": "house, machine, most",
        "worst_loads": "house, most",
        "unsafe": "house, most",
        "margin": "house",
    },
    "tables": {
        "Table": "house, most, *, limit=400",
        "Table.pictures": "self",
        "Table.number_of": "self, picture",
        "Table.run_to": "self, picture",
        "is_closed": "house, most, value",
    },
    "forms": {
        "short_form": "house, service, most",
        "parting": "house, other, most",
    },
    "moves": {
        "moves": "house, service, history",
        "most_moves": "house, service, events, most",
        "moving": "house, service, events, most",
    },
    "surges": {
        "surge": "house, history, machines",
        "worst_surge": "house, most",
    },
    "toldback": {
        "order_of": "machines, seen",
        "orders": "machines, seen",
        "next_at": "machines, seen, down",
        "order_of_log": "machines, rule, log",
    },
    "newlists": {
        "fitting": "house, weight, rule, most",
        "room": "house, order, rule, most",
        "mending": "house, service, most",
    },
    "desk": {
        "Desk": "house, most",
        "Desk.__len__": "self",
        "Desk.house_now": "self",
        "Desk.picture": "self",
        "Desk.load": "self, machine",
        "Desk.fall": "self, machine",
        "Desk.rise": "self, machine",
        "Desk.rewrite": "self, service, order",
        "Desk.undo": "self",
        "Desk.moved": "self, service",
        "Desk.worst_here": "self, machine",
        "Desk.surge_here": "self, machines",
        "Desk.fork": "self",
    },
    "priced": {
        "cost": "prices, machines",
        "purse_of": "house, prices, history",
        "gather_priced": "house, machine, services, prices, purse",
        "is_priced_bar": "house, machine, prices, purse, value",
        "worst_priced": "house, machine, prices, purse",
        "breaking_purse": "house, machine, prices",
    },
    "rolling": {
        "is_calm": "house, picture",
        "is_light": "house, picture",
        "rolling": "house, most, *, limit=4000",
        "is_rolling": "house, most, value",
        "is_barring": "house, most, value",
    },
    "tours": {
        "weight_moved": "house, picture, event",
        "tour_mean": "house, tour",
        "is_tour": "house, most, value",
        "busiest": "house, most, *, limit=400",
        "are_numbers": "house, most, mean, value, *, limit=400",
    },
    "steered": {
        "carries": "house, picture",
        "behind_carry": "picture, carry",
        "steered": "house, most, *, limit=3000",
        "is_keeping": "house, most, value",
        "is_breaking": "house, most, value",
        "Steering": "house, most",
        "Steering.__len__": "self",
        "Steering.picture": "self",
        "Steering.fall": "self, machine",
        "Steering.rise": "self, machine",
        "Steering.carry": "self, service, machine",
        "Steering.advice": "self",
        "Steering.undo": "self",
        "Steering.fork": "self",
    },
}


def package_files():
    return sorted(name for name in os.listdir(PACKAGE) if name != "__pycache__")


def text_of(name):
    with open(os.path.join(PACKAGE, name), encoding="utf-8") as file:
        return file.read()


class InterfaceTest(unittest.TestCase):
    def test_each_name_is_defined_in_its_file_and_class(self):
        for file, names in INTERFACE.items():
            module = importlib.import_module("nextalive." + file)
            for name, told in names.items():
                with self.subTest(file=file, name=name):
                    owner, _, method = name.rpartition(".")
                    found = vars(vars(module)[owner])[method] if owner else vars(module)[name]
                    self.assertEqual(found.__module__, "nextalive." + file)
                    if told is not None:
                        self.assertEqual(str(inspect.signature(found)), "(" + told + ")")


class LanguageTest(unittest.TestCase):
    def test_files(self):
        names = package_files()
        self.assertIn("__init__.py", names)
        for name in names:
            with self.subTest(name=name):
                self.assertRegex(name, r"\A[a-z_][a-z0-9_]*\.py\Z")

    def test_characters_and_lengths(self):
        for name in package_files():
            with self.subTest(name=name):
                lines = text_of(name).split("\n")
                self.assertLess(len(lines), 400)
                self.assertLessEqual(max(len(line) for line in lines), 120)
                self.assertTrue(all(" " <= sign <= "~" for line in lines for sign in line))

    def test_functions_have_at_most_forty_lines(self):
        for name in package_files():
            for node in ast.walk(ast.parse(text_of(name))):
                if isinstance(node, (ast.FunctionDef, ast.Lambda)):
                    with self.subTest(name=name, line=node.lineno):
                        self.assertLessEqual(node.end_lineno - node.lineno + 1, 40)

    def test_imports(self):
        for name in package_files():
            for node in ast.walk(ast.parse(text_of(name))):
                with self.subTest(name=name):
                    self.assertNotIsInstance(node, ast.Import)
                    if isinstance(node, ast.ImportFrom):
                        self.assertTrue(node.module.startswith("nextalive.") or node.module in LIBRARY)
                        self.assertEqual((node.level, [part.asname for part in node.names if part.asname]), (0, []))

    def test_nothing_that_the_language_leaves_out(self):
        barred = (ast.AsyncFunctionDef, ast.AsyncFor, ast.AsyncWith, ast.Await)
        for name in package_files():
            for node in ast.walk(ast.parse(text_of(name))):
                with self.subTest(name=name):
                    self.assertNotIsInstance(node, barred)
                    self.assertFalse(isinstance(node, ast.Constant) and isinstance(node.value, float))
                    self.assertFalse(isinstance(node, ast.BinOp) and isinstance(node.op, ast.Div))


if __name__ == "__main__":
    unittest.main()
