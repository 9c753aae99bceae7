"""Points 1 and 2, and the interface: what holds of everything."""

import ast
import copy
import inspect
import pathlib
import unittest

from laidontop import basics, days, piles

PACKAGE = pathlib.Path(piles.__file__).parent

PILE = ("c", "x", "a", "b")
READINGS = ["b", "b", "a", "c", "x", "a"]
WANTS = (("a", 2), ("b", 1), ("c", 2))
DAY = ("a", "c", "b", "a", "c")

CALLS = [
    (piles.is_pile, {"thing": ["a", ("b", [1])]}),
    (piles.is_pile, {"thing": (["a"], "b")}),
    (piles.behind, {"pile": PILE, "readings": READINGS}),
    (piles.lifted, {"pile": PILE, "readings": READINGS}),
    (piles.passings, {"pile": PILE, "readings": READINGS}),
    (days.are_wants, {"thing": [("a", 1), ["b", 2]]}),
    (days.are_wants, {"thing": (["a", 1],)}),
    (days.far_pile, {"pile": PILE, "day": DAY, "days": 5}),
    (days.far_lifted, {"pile": PILE, "day": DAY, "days": 5}),
    (days.each_day, {"wants": WANTS, "day": DAY}),
    (days.day_passings, {"wants": WANTS, "day": DAY}),
]

INTERFACE = {
    "piles": {
        "is_pile": ["thing"], "behind": ["pile", "readings"], "lifted": ["pile", "readings"],
        "passings": ["pile", "readings"],
    },
    "days": {
        "are_wants": ["thing"], "far_pile": ["pile", "day", "days"], "far_lifted": ["pile", "day", "days"],
        "each_day": ["wants", "day"], "day_passings": ["wants", "day"],
    },
}


class HoldsOfEverything(unittest.TestCase):
    def test_nothing_handed_in_is_changed(self):
        for ask, given in CALLS:
            handed = copy.deepcopy(given)
            ask(**handed)
            self.assertEqual(handed, given, ask.__name__)

    def test_asked_again_it_is_answered_the_same(self):
        for ask, given in CALLS:
            self.assertEqual(ask(**given), ask(**given), ask.__name__)

    def test_a_told_list_is_the_askers_own(self):
        for ask, given in CALLS:
            told = ask(**given)
            if isinstance(told, list):
                kept = copy.deepcopy(told)
                told.append("more")
                del told[0]
                again = ask(**given)
                self.assertEqual(again, kept, ask.__name__)
                self.assertIsNot(again, told)

    def test_nothing_handed_in_is_kept(self):
        readings = list(READINGS)
        told = [piles.behind(PILE, readings), piles.lifted(PILE, readings), piles.passings(PILE, readings)]
        kept = copy.deepcopy(told)
        readings.clear()
        self.assertEqual(told, kept)
        self.assertEqual(piles.lifted(PILE, readings), [])
        self.assertIsNot(piles.lifted(PILE, readings), readings)

    def test_by_place_as_by_name(self):
        for ask, given in CALLS:
            self.assertEqual(ask(*given.values()), ask(**given), ask.__name__)
            backward = dict(reversed(list(given.items())))
            self.assertEqual(ask(**backward), ask(**given), ask.__name__)

    def test_truths_are_no_whole_numbers(self):
        for number in (0, 1, -1, 10 ** 39):
            self.assertIs(basics.is_whole_number(number), True)
        for thing in (True, False, None, "1", 1.0, [1], (1,)):
            self.assertIs(basics.is_whole_number(thing), False)


class Interface(unittest.TestCase):
    def test_names_and_arguments(self):
        for module in (piles, days):
            for name, arguments in INTERFACE[module.__name__.split(".")[1]].items():
                self.assertEqual(list(inspect.signature(getattr(module, name)).parameters), arguments, name)

    def test_each_is_defined_in_its_own_file(self):
        for file, names in INTERFACE.items():
            tree = ast.parse((PACKAGE / (file + ".py")).read_text())
            defined = [node.name for node in tree.body if isinstance(node, ast.FunctionDef)]
            for name in names:
                self.assertEqual(defined.count(name), 1, name)

    def test_only_the_package_is_imported(self):
        for path in PACKAGE.glob("*.py"):
            for node in ast.walk(ast.parse(path.read_text())):
                self.assertNotIsInstance(node, ast.Import, path.name)
                if isinstance(node, ast.ImportFrom):
                    self.assertTrue(node.module.startswith("laidontop."), path.name)


if __name__ == "__main__":
    unittest.main()
