import ast
import importlib
import inspect
import pathlib
import unittest

PACKAGE = pathlib.Path(__file__).resolve().parent.parent / "boundsums"

FUNCTIONS = {
    "boundsums.fractions": {
        "fraction": "top bottom", "is_fraction": "thing", "added": "p q", "taken": "p q",
        "multiplied": "p q", "divided": "p q", "compared": "p q", "floor_of": "p", "ceiling_of": "p",
    },
    "boundsums.stretches": {
        "need_grid": "grid", "need_stretch": "thing", "holding": "grid p",
        "lies_in": "grid stretch p", "plus": "grid one other", "minus": "grid one other",
        "times": "grid one other", "over": "grid one other", "least": "grid one other",
        "most": "grid one other", "contrary": "grid one", "power": "grid one count",
    },
    "boundsums.terms": {"need_term": "thing", "letters": "term", "value": "term point"},
    "boundsums.texts": {"written": "term", "read": "text"},
    "boundsums.boxes": {"stretch_of": "grid term box", "parted": "box name at"},
    "boundsums.showings": {"is_showing": "grid term box thing", "sought": "grid term box most"},
    "boundsums.cells": {"cells": "grid term stretch"},
}
CLASSES = {
    "boundsums.errors": [
        "BoundError", "BadGrid", "BadStretch", "BadFraction", "BadTerm", "BadText", "NoLetter",
        "ByNought", "BadCount",
    ],
}


class InterfaceTest(unittest.TestCase):
    def test_functions_have_their_arguments_and_stand_in_their_file(self):
        for place, names in FUNCTIONS.items():
            module = importlib.import_module(place)
            for name, arguments in names.items():
                with self.subTest(place=place, name=name):
                    deed = getattr(module, name)
                    self.assertEqual(deed.__module__, place)
                    self.assertEqual(" ".join(inspect.signature(deed).parameters), arguments)

    def test_200_boxes_are_looked_at_unless_told_otherwise(self):
        sought = importlib.import_module("boundsums.showings").sought
        given = {name: one.default for name, one in inspect.signature(sought).parameters.items()}
        empty = inspect.Parameter.empty
        self.assertEqual(given, {"grid": empty, "term": empty, "box": empty, "most": 200})

    def test_classes_stand_in_their_file(self):
        for place, names in CLASSES.items():
            module = importlib.import_module(place)
            for name in names:
                self.assertEqual(getattr(module, name).__module__, place)


class FormTest(unittest.TestCase):
    """The sizes and signs that LANGUAGE.md sets, where they are quickly seen."""

    def test_files_and_functions_keep_their_size(self):
        for path in sorted(PACKAGE.glob("*.py")):
            text = path.read_text(encoding="utf-8")
            with self.subTest(path=path.name):
                self.assertTrue(all(sign == "\n" or " " <= sign <= "~" for sign in text))
                rows = text.splitlines()
                self.assertLess(len(rows), 400)
                self.assertLessEqual(max([len(row) for row in rows], default=0), 120)
                for node in ast.walk(ast.parse(text)):
                    if isinstance(node, ast.FunctionDef):
                        self.assertLessEqual(node.end_lineno - node.lineno + 1, 40, node.name)

    def test_only_what_is_allowed_is_imported(self):
        for path in sorted(PACKAGE.glob("*.py")):
            for node in ast.walk(ast.parse(path.read_text(encoding="utf-8"))):
                self.assertNotIsInstance(node, ast.Import)
                if isinstance(node, ast.ImportFrom):
                    self.assertEqual(node.level, 0)
                    inside = node.module.startswith("boundsums.")
                    gcd_alone = node.module == "math" and [one.name for one in node.names] == ["gcd"]
                    self.assertTrue(inside or gcd_alone, node.module)


if __name__ == "__main__":
    unittest.main()
