"""The names of the interface: in which file they are defined, with which arguments."""

import ast
import pathlib
import unittest

PACKAGE = pathlib.Path(__file__).resolve().parent.parent / "oncefolded"

FUNCTIONS = {
    "formulas": {
        "is_switches": ["value"],
        "configurations": ["count"],
        "read_formula": ["switches", "text"],
        "is_true": ["switches", "formula", "configuration"],
    },
    "diagrams": {
        "switch": ["i"],
        "negated": ["d"],
        "both": ["d", "e"],
        "either": ["d", "e"],
        "diagram_of": ["switches", "formula"],
        "holds": ["d", "configuration"],
        "chosen": ["d", "count"],
        "least": ["d", "count"],
        "how_many": ["d", "count"],
        "diagram_at": ["configuration"],
        "written": ["switches", "d"],
        "is_diagram": ["value", "count"],
    },
}

# Each class with its bases and the arguments of its __init__, None without one.
CLASSES = {
    "errors": {
        "FoldError": (["ValueError"], None),
        "BadFormula": (["FoldError"], None),
        "BadShelf": (["FoldError"], ["self", "file", "line", "word"]),
        "BadToken": (["FoldError"], ["self", "row", "column"]),
        "BadGrammar": (["FoldError"], ["self", "line"]),
        "TooMany": (["FoldError"], None),
        "NotAllowed": (["FoldError"], None),
    },
}


def definitions(module, kind):
    tree = ast.parse((PACKAGE / (module + ".py")).read_text(encoding="utf-8"))
    return {node.name: node for node in tree.body if isinstance(node, kind)}


def argument_names(function):
    return [argument.arg for argument in function.args.args]


class InterfaceTest(unittest.TestCase):
    def test_functions(self):
        for module, functions in FUNCTIONS.items():
            found = definitions(module, ast.FunctionDef)
            for name, arguments in functions.items():
                self.assertIn(name, found, module)
                self.assertEqual(argument_names(found[name]), arguments, name)

    def test_classes(self):
        for module, classes in CLASSES.items():
            found = definitions(module, ast.ClassDef)
            for name, (bases, arguments) in classes.items():
                self.assertIn(name, found, module)
                self.assertEqual([base.id for base in found[name].bases], bases, name)
                made = [node for node in found[name].body
                        if isinstance(node, ast.FunctionDef) and node.name == "__init__"]
                self.assertEqual([argument_names(node) for node in made], [arguments] if arguments else [])


if __name__ == "__main__":
    unittest.main()
