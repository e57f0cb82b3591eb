"""That the interface exists as the document lists it: names, files and arguments."""

import ast
import importlib
import inspect
import pathlib
import unittest

TOP = pathlib.Path(__file__).resolve().parent.parent

INTERFACE = {
    "sureplace.errors": {
        "SurePlaceError": None, "InvalidSetting": None, "InvalidReading": None, "InvalidQuestion": None,
        "InvalidPlan": None, "InvalidAddress": None, "UnknownQuestion": None, "UnknownMoment": None,
        "NotPinned": None, "InvalidText": "(place)", "InvalidLine": "(line, place)"},
    "sureplace.numbers.roots": {"root_down": "(number)", "root_up": "(number)"},
    "sureplace.numbers.boxes": {
        "middle": "(box)", "half_side": "(side)", "radius": "(box)", "inside": "(box, other)",
        "is_small": "(box, share)", "widest": "(box)", "cut": "(box, axis, place)", "halves": "(box)",
        "cell_at": "(box, address)"},
    "sureplace.given.names": {"is_name": "(text)"},
    "sureplace.given.settings": {"Setting": "(dims, *, speed, drift, per)"},
    "sureplace.given.readings": {
        "Reading": "(source, moment, kind, *, low, high, late=0, near=0)", "reading_fits": "(setting, reading)",
        "says_as_much": "(reading, other)"},
    "sureplace.given.questions": {
        "Question": "(moment, root, *, liars, share, earliest, latest)", "question_fits": "(setting, question)",
        "asked": "(question, readings)"},
    "sureplace.kinds.spans": {
        "nearest": "(point, box)", "farthest": "(point, box)", "distances": "(point, box)", "dot": "(one, two)",
        "from_piece": "(point, at, to)", "between": "(box, other)", "greatest_from": "(box, other)",
        "span": "(kind, box)"},
    "sureplace.kinds.exclusion": {
        "rate": "(kind)", "clock_rate": "(kind)", "moved": "(kind)", "carried": "(setting, reading, moment)",
        "excludes": "(setting, reading, moment, box)"},
    "sureplace.motion.going": {
        "reach": "(setting, ticks)", "slip": "(setting, ticks)", "farther": "(setting, ticks, box, other)",
        "widened": "(setting, ticks, box)"},
    "sureplace.judge.blame": {"blames_right": "(used, steps, *, honest=(), liars)"},
    "sureplace.judge.trees": {
        "Held": "(moment, cover, used)", "judge_tree": "(setting, readings, held, keep, moment, tree, box)"},
}


class Interface(unittest.TestCase):
    def test_names_and_arguments(self):
        for module, names in INTERFACE.items():
            there = importlib.import_module(module)
            for name, arguments in names.items():
                self.assertTrue(hasattr(there, name), (module, name))
                if arguments is not None:
                    self.assertEqual(str(inspect.signature(getattr(there, name))), arguments, (module, name))

    def test_each_is_defined_in_the_file_under_which_it_is_listed(self):
        for module, names in INTERFACE.items():
            path = TOP.joinpath(*module.split(".")).with_suffix(".py")
            tree = ast.parse(path.read_text(encoding="utf-8"))
            defined = [node.name for node in tree.body if isinstance(node, (ast.FunctionDef, ast.ClassDef))]
            for name in names:
                self.assertEqual(defined.count(name), 1, (module, name))

    def test_tests_stand_beside_the_package(self):
        self.assertEqual([path for path in (TOP / "sureplace").rglob("*") if "test" in path.name], [])


if __name__ == "__main__":
    unittest.main()
