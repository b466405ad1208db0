"""Tests of the whole program: point 1, and the interface of the document."""

import ast
import inspect
import pathlib
import unittest

import cuehall
from cuehall import plays, runs, texts

FOLDER = pathlib.Path(cuehall.__file__).parent

# What the document lists, file by file: classes with their methods, and functions.
INTERFACE = {
    plays: {
        "Play": {
            "put": ["number", ("up", 0), ("down", 0), ("fresh", False)],
            "tell": ["number", "lamp", "level"],
            "untell": ["number", "lamp"],
            "only": ["number", "lamp", "level"],
            "cut": ["number"],
            "lift": ["number"],
            "numbers": [],
            "cue": ["number"],
            "look": ["number"],
            "level": ["number", "lamp"],
            "spare": [],
            "least": [],
        },
    },
    texts: {"written": ["play"], "read": ["text"]},
    runs: {
        "Run": {
            "call": ["number", "moment"],
            "go": ["moment"],
            "back": ["moment"],
            "calls": [],
            "at": ["moment"],
            "ended": [],
        },
    },
}

# Names of Python that reach a clock, chance, files, or anything else outside.
OUTSIDE = {"open", "input", "print", "eval", "exec", "compile", "hash", "id", "__import__"}


def arguments(function):
    """The names of a function's arguments, with their default values where they have some."""
    told = inspect.signature(function).parameters.values()
    return [one.name if one.default is one.empty else (one.name, one.default) for one in told]


class TheInterface(unittest.TestCase):
    def test_functions_and_classes_are_defined_in_their_files(self):
        for module, things in INTERFACE.items():
            for name in things:
                self.assertEqual(getattr(module, name).__module__, module.__name__)

    def test_functions_take_the_arguments_listed(self):
        for name, listed in INTERFACE[texts].items():
            self.assertEqual(arguments(getattr(texts, name)), listed)

    def test_methods_are_defined_in_their_classes_and_take_the_arguments_listed(self):
        for module, name in ((plays, "Play"), (runs, "Run")):
            kind = getattr(module, name)
            for method, listed in INTERFACE[module][name].items():
                with self.subTest(name=name, method=method):
                    self.assertIn(method, vars(kind))
                    self.assertEqual(arguments(vars(kind)[method]), ["self"] + listed)

    def test_a_play_is_made_of_nothing_and_a_run_of_a_play(self):
        self.assertEqual(arguments(plays.Play), [])
        self.assertEqual(arguments(runs.Run), ["play"])

    def test_arguments_may_be_named(self):
        play = plays.Play()
        play.put(number=1, up=2, down=3, fresh=True)
        play.tell(number=1, lamp="a", level=5)
        play.only(number=1, lamp="b", level=6)
        play.untell(number=1, lamp="a")
        self.assertEqual(play.level(number=1, lamp="b"), 6)
        run = runs.Run(play=play)
        run.call(number=1, moment=4)
        self.assertEqual(run.at(moment=6), {"b": (6, 1)})
        self.assertEqual(texts.written(play=texts.read(text="cue 1 0 0\n")), "cue 1 0 0\n")


class NothingFromOutside(unittest.TestCase):
    def test_files_import_from_the_package_and_gcd_alone(self):
        for file in FOLDER.rglob("*.py"):
            for node in ast.walk(ast.parse(file.read_text())):
                self.assertNotIsInstance(node, ast.Import, file)
                if isinstance(node, ast.ImportFrom):
                    from_math = node.module == "math" and [x.name for x in node.names] == ["gcd"]
                    self.assertTrue(from_math or node.module.startswith("cuehall."), file)

    def test_files_name_nothing_that_reaches_outside(self):
        for file in FOLDER.rglob("*.py"):
            names = {node.id for node in ast.walk(ast.parse(file.read_text()))
                     if isinstance(node, ast.Name)}
            self.assertEqual(names & OUTSIDE, set(), file)


if __name__ == "__main__":
    unittest.main()
