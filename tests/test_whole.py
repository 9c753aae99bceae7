"""Points 1 and 2, and the interface: what holds of everything."""

import ast
import copy
import inspect
import os
import pathlib
import subprocess
import sys
import unittest

from laidontop import basics, bounds, codes, days, piles

PACKAGE = pathlib.Path(piles.__file__).parent

PILE = ("c", "x", "a", "b")
READINGS = ["b", "b", "a", "c", "x", "a"]
WANTS = (("a", 2), ("b", 1), ("c", 2))
DAY = ("a", "c", "b", "a", "c")
NUMBERS = [3, 0, 3, 2, 1, 1]
OTHER = ("b", "x", "c", "a")

CALLS = [
    (piles.is_pile, {"thing": ["a", ("b", [1])]}),
    (piles.is_pile, {"thing": (["a"], "b")}),
    (piles.behind, {"pile": PILE, "readings": READINGS}),
    (piles.lifted, {"pile": PILE, "readings": READINGS}),
    (piles.passings, {"pile": PILE, "readings": READINGS}),
    (days.are_wants, {"thing": [("a", 1), ["b", 2]]}),
    (days.are_wants, {"thing": (["a", 1],)}),
    (days.far_pile, {"pile": PILE, "day": DAY, "days": 5}),
    (days.far_lifted, {"pile": PILE, "day": DAY, "days": 5}),
    (days.each_day, {"wants": WANTS, "day": DAY}),
    (days.day_passings, {"wants": WANTS, "day": DAY}),
    (bounds.most, {"wants": WANTS}),
    (bounds.least, {"wants": WANTS}),
    (bounds.most_passings, {"wants": WANTS}),
    (bounds.amounts, {"wants": WANTS}),
    (bounds.most_day, {"wants": WANTS}),
    (bounds.least_day, {"wants": WANTS}),
    (codes.readings_by, {"pile": PILE, "numbers": NUMBERS}),
    (codes.readings_by, {"pile": PILE, "numbers": []}),
    (codes.undone, {"pile": PILE, "numbers": NUMBERS}),
    (codes.undone, {"pile": PILE, "numbers": []}),
    (codes.piles_for, {"pile": PILE, "readings": ["b", "b", "a"], "numbers": [1, 0, 3]}),
    (codes.piles_for, {"pile": PILE, "readings": ["b", "b"], "numbers": [1, 1]}),
    (codes.piles_for, {"pile": PILE, "readings": [], "numbers": []}),
    (codes.fewest_to, {"pile": PILE, "other": OTHER}),
    (codes.fewest_to, {"pile": PILE, "other": PILE}),
]

INTERFACE = {
    "piles": {
        "is_pile": ["thing"], "behind": ["pile", "readings"], "lifted": ["pile", "readings"],
        "passings": ["pile", "readings"],
    },
    "days": {
        "are_wants": ["thing"], "far_pile": ["pile", "day", "days"], "far_lifted": ["pile", "day", "days"],
        "each_day": ["wants", "day"], "day_passings": ["wants", "day"],
    },
    "bounds": {
        "most": ["wants"], "least": ["wants"], "most_passings": ["wants"], "amounts": ["wants"],
        "most_day": ["wants"], "least_day": ["wants"],
    },
    "codes": {
        "readings_by": ["pile", "numbers"], "undone": ["pile", "numbers"],
        "piles_for": ["pile", "readings", "numbers"], "fewest_to": ["pile", "other"],
    },
}


def told_lists(told):
    """All lists in what was told, itself among them."""
    inner = [one for part in told for one in told_lists(part)] if isinstance(told, (list, tuple)) else []
    return [told] * isinstance(told, list) + inner


def told_text():
    """All that the calls tell, as one text."""
    return repr([ask(**given) for ask, given in CALLS])


class HoldsOfEverything(unittest.TestCase):
    def test_nothing_handed_in_is_changed(self):
        for ask, given in CALLS:
            handed = copy.deepcopy(given)
            ask(**handed)
            self.assertEqual(handed, given, ask.__name__)

    def test_asked_again_it_is_answered_the_same(self):
        for ask, given in CALLS:
            self.assertEqual(ask(**given), ask(**given), ask.__name__)

    def test_asked_in_other_orders_and_between_others_it_is_answered_the_same(self):
        first = [ask(**given) for ask, given in CALLS]
        backward = [ask(**given) for ask, given in reversed(CALLS)]
        self.assertEqual(first, backward[::-1])

    def test_another_run_answers_the_same(self):
        root = str(PACKAGE.parent)
        ask = "from tests.test_whole import told_text; print(told_text())"
        for seed in ("0", "1", "77"):
            around = {**os.environ, "PYTHONHASHSEED": seed, "PYTHONPATH": root}
            ran = subprocess.run(
                [sys.executable, "-B", "-c", ask], cwd=root, env=around, capture_output=True, text=True, check=True)
            self.assertEqual(ran.stdout, told_text() + "\n")

    def test_a_told_list_is_the_askers_own(self):
        for ask, given in CALLS:
            told = ask(**given)
            kept = copy.deepcopy(told)
            for one in told_lists(told):
                one.insert(0, "more")
                del one[1:]
            again = ask(**given)
            self.assertEqual(again, kept, ask.__name__)

    def test_every_told_list_is_a_new_one(self):
        for ask, given in CALLS:
            seen = told_lists(list(given.values()))[1:]
            for told in (ask(**given), ask(**given)):
                for one in told_lists(told):
                    self.assertFalse(any(one is other for other in seen), ask.__name__)
                    seen.append(one)

    def test_what_was_told_stays_when_the_given_changes(self):
        for ask, given in CALLS:
            handed = copy.deepcopy(given)
            told = ask(**handed)
            kept = copy.deepcopy(told)
            for one in told_lists(list(handed.values())):
                one.clear()
            self.assertEqual(told, kept, ask.__name__)
            self.assertEqual(ask(**given), kept, ask.__name__)

    def test_nothing_handed_in_is_kept(self):
        readings = list(READINGS)
        told = [piles.behind(PILE, readings), piles.lifted(PILE, readings), piles.passings(PILE, readings)]
        kept = copy.deepcopy(told)
        readings.clear()
        self.assertEqual(told, kept)
        self.assertEqual(piles.lifted(PILE, readings), [])
        self.assertIsNot(piles.lifted(PILE, readings), readings)

    def test_by_place_as_by_name(self):
        for ask, given in CALLS:
            self.assertEqual(ask(*given.values()), ask(**given), ask.__name__)
            backward = dict(reversed(list(given.items())))
            self.assertEqual(ask(**backward), ask(**given), ask.__name__)

    def test_truths_are_no_whole_numbers(self):
        for number in (0, 1, -1, 10 ** 39):
            self.assertIs(basics.is_whole_number(number), True)
        for thing in (True, False, None, "1", 1.0, [1], (1,)):
            self.assertIs(basics.is_whole_number(thing), False)


class Interface(unittest.TestCase):
    def test_names_and_arguments(self):
        for module in (piles, days, bounds, codes):
            for name, arguments in INTERFACE[module.__name__.split(".")[1]].items():
                self.assertEqual(list(inspect.signature(getattr(module, name)).parameters), arguments, name)

    def test_each_is_defined_in_its_own_file(self):
        for file, names in INTERFACE.items():
            tree = ast.parse((PACKAGE / (file + ".py")).read_text())
            defined = [node.name for node in tree.body if isinstance(node, ast.FunctionDef)]
            for name in names:
                self.assertEqual(defined.count(name), 1, name)

    def test_only_the_package_is_imported(self):
        for path in PACKAGE.glob("*.py"):
            for node in ast.walk(ast.parse(path.read_text())):
                self.assertNotIsInstance(node, ast.Import, path.name)
                if isinstance(node, ast.ImportFrom):
                    self.assertTrue(node.module.startswith("laidontop."), path.name)


if __name__ == "__main__":
    unittest.main()
