"""That the interface exists as the document lists it: names, files and arguments."""

import ast
import importlib
import inspect
import pathlib
import re
import unittest

TOP = pathlib.Path(__file__).resolve().parent.parent

INTERFACE = {
    "sureplace.errors": {
        "SurePlaceError": None, "InvalidSetting": None, "InvalidReading": None, "InvalidQuestion": None,
        "InvalidPlan": None, "InvalidAddress": None, "UnknownQuestion": None, "UnknownMoment": None,
        "NotPinned": None, "InvalidText": "(place)", "InvalidLine": "(line, place)"},
    "sureplace.numbers.roots": {"root_down": "(number)", "root_up": "(number)"},
    "sureplace.numbers.boxes": {
        "middle": "(box)", "half_side": "(side)", "radius": "(box)", "inside": "(box, other)",
        "is_small": "(box, share)", "widest": "(box)", "cut": "(box, axis, place)", "halves": "(box)",
        "cell_at": "(box, address)"},
    "sureplace.given.names": {"is_name": "(text)"},
    "sureplace.given.settings": {"Setting": "(dims, *, speed, drift, per)"},
    "sureplace.given.readings": {
        "Reading": "(source, moment, kind, *, low, high, late=0, near=0)", "reading_fits": "(setting, reading)",
        "says_as_much": "(reading, other)"},
    "sureplace.given.questions": {
        "Question": "(moment, root, *, liars, share, earliest, latest)", "question_fits": "(setting, question)",
        "asked": "(question, readings)"},
    "sureplace.kinds.spans": {
        "nearest": "(point, box)", "farthest": "(point, box)", "distances": "(point, box)", "dot": "(one, two)",
        "from_piece": "(point, at, to)", "between": "(box, other)", "greatest_from": "(box, other)",
        "span": "(kind, box)"},
    "sureplace.kinds.exclusion": {
        "rate": "(kind)", "clock_rate": "(kind)", "moved": "(kind)", "carried": "(setting, reading, moment)",
        "excludes": "(setting, reading, moment, box)"},
    "sureplace.motion.going": {
        "reach": "(setting, ticks)", "slip": "(setting, ticks)", "farther": "(setting, ticks, box, other)",
        "widened": "(setting, ticks, box)"},
    "sureplace.judge.blame": {"blames_right": "(used, steps, *, honest=(), liars)"},
    "sureplace.judge.trees": {
        "Held": "(moment, cover, used)", "judge_tree": "(setting, readings, held, keep, moment, tree, box)"},
    "sureplace.judge.papers": {
        "Known": "(moment, cover, tree)", "Paper": "(known, trees, steps)",
        "root_at": "(setting, question, moment)", "judge_known": "(setting, question, readings, known)",
        "used_by": "(setting, question, readings, held, trees, box)",
        "judge_paper": "(setting, question, readings, paper, box, *, honest=())"},
    "sureplace.liars.meetings": {
        "make_steps": "(used, *, honest=(), liars)", "meetings": "(used, *, honest=(), liars)",
        "least_sets": "(used, *, honest=(), liars)", "fewest": "(sets)", "surely": "(sets)"},
    "sureplace.liars.makers": {
        "Suspicion": "(used, sets)", "make_paper": "(setting, question, readings, known, trees, box, *, honest=())",
        "suspicion": "(setting, question, readings, known, trees, *, honest=())"},
    "sureplace.witness.ways": {"Witness": "(liars, points)", "ascend": "(points)", "way_at": "(points, moment)"},
    "sureplace.witness.widening": {
        "cell_radius": "(setting, share)", "stretch": "(setting, question, readings)",
        "margin": "(setting, question, reading)"},
    "sureplace.witness.judging": {"judge_witness": "(setting, question, readings, witness, box)"},
    "sureplace.search.plans": {"Plan": "(moments, *, grain, most, without)"},
    "sureplace.search.covers": {"Row": None, "know": "(setting, question, readings, plan)"},
    "sureplace.search.searching": {
        "Told": "(cell, box, verdict, *, trees=(), steps=(), witness=None, names=())", "Found": None,
        "search": "(setting, question, readings, plan, steps)"},
    "sureplace.ledger.ledger": {"Ledger": "()", "restored": "(now, floor, pins, entries)"},
    "sureplace.standing.watch": {"Watch": "(question)"},
    "sureplace.standing.receiver": {"Write": None, "Receiver": "(setting)"},
    "sureplace.levels.levels": {
        "level_above": "(place, boxes)", "level_below": "(place, moment, witnesses)"},
    "sureplace.levels.sources": {
        "Standing": "(must, cannot, lies, tells)",
        "standing": "(setting, question, readings, source, *, must=None, cannot=None, lies=None, tells=None)"},
    "sureplace.texts.words": {"is_integer": "(word)", "Words": "(text)"},
    "sureplace.texts.saved": {"save": "(receiver)", "load": "(text)"},
    "sureplace.tracks.layers": {
        "Layer": "(moment, boxes)", "Pace": "(speed, drift, per)", "common": "(box, other)",
        "narrowed": "(layer, box)"},
    "sureplace.tracks.chains": {
        "linked": "(pace, layer, other)", "alive": "(pace, layers)", "judge_chain": "(pace, layers, chain)",
        "judge_barrier": "(pace, layers, marks)", "find": "(pace, layers)", "has_chain": "(pace, layers)",
        "least_speed": "(pace, layers)"},
    "sureplace.tracks.track": {"Track": "(pace)"},
    "sureplace.tools.tidying": {
        "tidy": "(setting, question, readings, paper, box, *, honest=())",
        "rests_on": "(setting, question, readings, paper, box, *, honest=())"},
    "sureplace.tools.parts": {
        "pruned": "(tree, box, part)",
        "restricted": "(setting, question, readings, paper, box, part, *, honest=())",
        "joined": "(setting, question, readings, first, second, box, axis, place, *, honest=())",
        "remade": "(setting, question, readings, paper, box, *, honest=())"},
    "sureplace.tools.reports": {"report": "(paper)"},
    "sureplace.tools.letters": {
        "write_paper": "(paper, dims)", "write_witness": "(witness, dims)", "read_paper": "(text)",
        "read_a_witness": "(text)"},
    "sureplace.scripts.lines": {"read_deed": "(text, setting)", "write_deed": "(deed)"},
    "sureplace.scripts.runs": {"Run": "(setting)", "run": "(lines)"},
}

# Methods that the interface lists; None stands for a property.
METHODS = {
    ("sureplace.search.searching", "Found"): {"__iter__": "(self)"},
    ("sureplace.ledger.ledger", "Ledger"): {
        "pins": None, "kept": None, "put": "(self, reading)", "correct": "(self, number, reading)",
        "withdraw": "(self, number)", "pin": "(self)", "unpin": "(self, moment)", "raise_floor": "(self, moment)",
        "keeps": "(self, moment)", "readings": "(self, moment)", "entries": "(self)"},
    ("sureplace.standing.watch", "Watch"): {
        "things": "(self)", "learn": "(self, setting, readings, thing)",
        "refute": "(self, setting, readings, address, trees, steps)",
        "reach": "(self, setting, readings, address, witness)", "turn": "(self, setting, readings)",
        "cells": "(self)", "paper": "(self, address)", "witness": "(self, address)"},
    ("sureplace.standing.receiver", "Receiver"): {
        "questions": None, "next_number": None, "there": "(self)", "put": "(self, reading)",
        "correct": "(self, number, reading)", "withdraw": "(self, number)", "pin": "(self)",
        "unpin": "(self, moment)", "raise_floor": "(self, moment)", "ask": "(self, question)", "end": "(self, number)",
        "learn": "(self, number, thing)", "refute": "(self, number, address, trees, steps)",
        "reach": "(self, number, address, witness)", "question": "(self, number)", "known": "(self, number)",
        "verdicts": "(self, number)", "paper": "(self, number, address)", "witness": "(self, number, address)",
        "watch": "(self, number)"},
    ("sureplace.texts.words", "Words"): {
        "ended": "(self)", "peek": "(self)", "word": "(self, words)",
        "number": f"(self, low={-10 ** 18}, high={10 ** 18})", "length": "(self)", "name": "(self)"},
    ("sureplace.tracks.track", "Track"): {
        "times": None, "put": "(self, moment, boxes)", "drop": "(self, moment)", "narrow": "(self, moment, box)",
        "boxes": "(self, moment)", "alive": "(self, moment)", "possible": "(self)", "shown": "(self)"},
    ("sureplace.scripts.runs", "Run"): {"resumed": "(cls, text)", "do": "(self, deed)"},
}


class Interface(unittest.TestCase):
    def test_names_and_arguments(self):
        for module, names in INTERFACE.items():
            there = importlib.import_module(module)
            for name, arguments in names.items():
                self.assertTrue(hasattr(there, name), (module, name))
                if arguments is not None:
                    self.assertEqual(str(inspect.signature(getattr(there, name))), arguments, (module, name))

    def test_each_is_defined_in_the_file_under_which_it_is_listed(self):
        for module, names in INTERFACE.items():
            path = TOP.joinpath(*module.split(".")).with_suffix(".py")
            tree = ast.parse(path.read_text(encoding="utf-8"))
            defined = [node.name for node in tree.body if isinstance(node, (ast.FunctionDef, ast.ClassDef))]
            for name in names:
                self.assertEqual(defined.count(name), 1, (module, name))

    def test_methods_stand_in_the_class_itself(self):
        for (module, name), methods in METHODS.items():
            own = vars(getattr(importlib.import_module(module), name))
            for method, arguments in methods.items():
                self.assertIn(method, own, (name, method))
                if arguments is None:
                    self.assertIsInstance(own[method], property, (name, method))
                    continue
                if arguments.startswith("(cls"):
                    self.assertIsInstance(own[method], classmethod, (name, method))
                function = getattr(own[method], "__func__", own[method])
                self.assertEqual(str(inspect.signature(function)), arguments, (name, method))

    def test_no_file_of_the_interface_is_forgotten_here(self):
        document = TOP.parent / "shared" / "DOC.md"
        if document.is_file():
            listed = re.findall(r"^## (sureplace/\S+)\.py$", document.read_text(encoding="utf-8"), re.MULTILINE)
            self.assertEqual({path.replace("/", ".") for path in listed}, set(INTERFACE))

    def test_tests_stand_beside_the_package(self):
        self.assertEqual([path for path in (TOP / "sureplace").rglob("*") if "test" in path.name], [])


if __name__ == "__main__":
    unittest.main()
