"""Point 2, the interface's names and places, and the form of the files of the package."""

import ast
import importlib
import inspect
import pathlib
import unittest
import warnings

import ringbeats

FOLDER = pathlib.Path(ringbeats.__file__).parent
FILES = sorted(FOLDER.glob("*.py"))

INTERFACE = {
    "rings": {
        "is_ring": ["value"],
        "are_places": ["ring", "value"],
        "beaten": ["ring", "places"],
        "turned": ["ring", "places", "many"],
        "mirrored": ["ring", "places"],
        "around": ["ring", "places"],
        "widened": ["ring", "places", "at"],
        "scaled": ["ring", "places", "factor"],
    },
    "tournaments": {
        "is_tournament": ["value"],
        "triangles": ["tournament"],
        "count_triangles": ["tournament"],
        "obstruction": ["tournament"],
        "accepts_obstruction": ["tournament", "value"],
        "twins": ["tournament"],
    },
    "transitive": {
        "has_order": ["tournament"],
        "order_evidence": ["tournament"],
        "accepts_order": ["tournament", "value"],
        "scores": ["tournament"],
        "reversed_results": ["tournament"],
        "restricted": ["tournament", "players"],
        "renamed": ["tournament", "order"],
    },
    "signed": {
        "told_order": ["tournament"],
        "stands_for": ["order"],
        "turned_order": ["tournament", "player", "itself"],
        "least_ring": ["tournament"],
        "accepts_order": ["tournament", "value"],
    },
    "circular": {
        "is_circular": ["tournament"],
        "least_places": ["tournament"],
        "circle_evidence": ["tournament"],
        "accepts_circle": ["tournament", "value"],
        "part": ["tournament", "players"],
    },
    "counting": {
        "count_ways": ["tournament", "ring"],
        "count_beginning": ["tournament", "ring", "beginning"],
        "nth_way": ["tournament", "ring", "index"],
        "index_of_way": ["tournament", "ring", "value"],
        "next_way": ["tournament", "ring", "places"],
    },
    "switching": {
        "switched": ["tournament", "players"],
        "straightening": ["tournament"],
        "ways": ["tournament", "other"],
        "renamings": ["tournament", "other"],
        "accepts_way": ["tournament", "other", "value"],
        "close": ["tournament"],
    },
    "walks": {
        "is_walk": ["tournament", "value"],
        "shortest_walk": ["tournament", "one", "other"],
        "walk_evidence": ["tournament", "one", "other"],
        "accepts_shortest": ["tournament", "one", "other", "value"],
    },
    "cycles": {
        "first_cycle": ["tournament", "player", "many"],
        "first_row": ["tournament"],
        "count_rows": ["tournament"],
        "endless_evidence": ["tournament"],
        "accepts_endless": ["tournament", "value"],
    },
    "numbered": {
        "count_circular": ["many"],
        "nth_circular": ["many", "index"],
        "index_of_circular": ["tournament"],
        "next_circular": ["tournament"],
        "with_one_more": ["tournament"],
    },
    "known": {
        "count_completions": ["players", "known"],
        "forced": ["players", "known"],
        "first_conflict": ["players", "known"],
        "best_question": ["players", "known"],
    },
    "cases": {
        "pair_evidence": ["players", "known", "one", "other"],
        "accepts_pair": ["players", "known", "one", "other", "value"],
    },
    "scanning": {
        "scan": ["text"],
    },
    "reading": {
        "next_tokens": ["text", "kind"],
        "read_tournament": ["text"],
        "read_ring": ["text"],
    },
    "writing": {
        "tournament_text": ["tournament"],
        "ring_text": ["ring", "places"],
    },
    "journals": {
        "replayed": ["players", "journal"],
        "are_right": ["players", "records"],
    },
}
CLASSES = {
    "errors": {
        "RingError": [],
        "BadValue": ["name"],
        "TooLarge": ["what"],
        "NotPossible": ["why"],
        "TextError": ["column", "words"],
    },
    "notebook": {
        "Notebook": ["players"],
    },
}
METHODS = {
    "notebook": {
        "Notebook": {
            "act": ["command"],
            "undo": [],
            "players": [],
            "results": [],
            "count": [],
            "forced": [],
            "question": [],
            "journal": [],
            "records": [],
            "twin": [],
        },
    },
}

PURE_LIBRARY = ("heapq", "math", "itertools", "collections", "__future__")
OUTSIDE_NAMES = ("open", "input", "print", "exec", "eval", "compile", "globals", "__import__", "__builtins__")


class Interface(unittest.TestCase):
    def test_functions_stand_in_their_files_with_their_parameters(self):
        for file, functions in INTERFACE.items():
            module = importlib.import_module(f"ringbeats.{file}")
            for name, parameters in functions.items():
                function = getattr(module, name)
                self.assertTrue(inspect.isfunction(function), name)
                self.assertEqual(function.__module__, f"ringbeats.{file}", name)
                self.assertEqual(list(inspect.signature(function).parameters), parameters, name)

    def test_classes_stand_in_their_files_with_their_parameters(self):
        for file, classes in CLASSES.items():
            module = importlib.import_module(f"ringbeats.{file}")
            for name, parameters in classes.items():
                found = getattr(module, name)
                self.assertTrue(inspect.isclass(found), name)
                self.assertEqual(found.__module__, f"ringbeats.{file}", name)
                if parameters:
                    self.assertEqual(list(inspect.signature(found).parameters), parameters, name)

    def test_methods_stand_in_their_classes_with_their_parameters(self):
        for file, classes in METHODS.items():
            module = importlib.import_module(f"ringbeats.{file}")
            for name, methods in classes.items():
                for method, parameters in methods.items():
                    function = vars(getattr(module, name))[method]
                    self.assertTrue(inspect.isfunction(function), method)
                    self.assertEqual(function.__qualname__, f"{name}.{method}")
                    self.assertEqual(list(inspect.signature(function).parameters), ["self", *parameters], method)


class Form(unittest.TestCase):
    def trees(self):
        for file in FILES:
            yield file.name, ast.parse(file.read_text(encoding="ascii"))

    def test_no_clock_no_random_numbers_no_files(self):
        for name, tree in self.trees():
            for node in ast.walk(tree):
                self.assertNotIsInstance(node, (ast.Import, ast.Global), name)
                if isinstance(node, ast.ImportFrom):
                    self.assertEqual(node.level, 0, name)
                    first = node.module.split(".")[0]
                    self.assertIn(first, ("ringbeats", *PURE_LIBRARY), name)
                if isinstance(node, ast.Name):
                    self.assertNotIn(node.id, OUTSIDE_NAMES, name)

    def test_the_package_holds_its_files_alone(self):
        others = [path.name for path in FOLDER.iterdir() if path not in FILES and path.name != "__pycache__"]
        self.assertEqual(others, [])
        self.assertIn("__init__.py", [file.name for file in FILES])

    def test_files_lines_and_functions_are_small(self):
        for name, tree in self.trees():
            rows = (FOLDER / name).read_text(encoding="ascii").split("\n")
            self.assertLessEqual(len(rows), 399, name)
            self.assertLessEqual(max(len(row) for row in rows), 120, name)
            for node in ast.walk(tree):
                if isinstance(node, ast.FunctionDef):
                    self.assertLessEqual(node.end_lineno - node.lineno + 1, 40, node.name)

    def test_every_character_is_plain(self):
        for file in FILES:
            strange = [byte for byte in file.read_bytes() if not 32 <= byte <= 126 and byte != 10]
            self.assertEqual(strange, [], file.name)

    def test_python_warns_of_nothing(self):
        with warnings.catch_warnings():
            warnings.simplefilter("error")
            for file in FILES:
                compile(file.read_text(encoding="ascii"), file.name, "exec")


if __name__ == "__main__":
    unittest.main()
