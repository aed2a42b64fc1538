"""The names of the interface: in which file they are defined, with which arguments."""

import ast
import importlib
import pathlib
import unittest

PACKAGE = pathlib.Path(__file__).resolve().parent.parent / "oncefolded"

FUNCTIONS = {
    "formulas": {
        "is_switches": ["value"],
        "configurations": ["count"],
        "read_formula": ["switches", "text"],
        "is_true": ["switches", "formula", "configuration"],
    },
    "diagrams": {
        "switch": ["i"],
        "negated": ["d"],
        "both": ["d", "e"],
        "either": ["d", "e"],
        "diagram_of": ["switches", "formula"],
        "holds": ["d", "configuration"],
        "chosen": ["d", "count"],
        "least": ["d", "count"],
        "how_many": ["d", "count"],
        "diagram_at": ["configuration"],
        "written": ["switches", "d"],
        "is_diagram": ["value", "count"],
    },
    "shelves": {
        "lines_of": ["text"],
        "choose": ["shelf", "name", "switches", "configuration"],
        "fold": ["shelf", "name", "switches"],
    },
    "tokens": {
        "tokens_of": ["text", "row"],
        "fold_tokens": ["lines"],
        "present": ["folded", "configuration"],
    },
    "grammars": {
        "is_grammar": ["value", "count"],
        "matches": ["part", "token"],
        "rules_of": ["grammar", "symbol"],
        "barred": ["grammar", "rule", "place", "below"],
        "demand_holds": ["demand", "firsts"],
    },
    "grammar_texts": {
        "read_grammar": ["switches", "text"],
    },
    "derivations": {
        "tokens_in": ["tree"],
        "is_derivation": ["grammar", "folded", "configuration", "value"],
        "count_derivations": ["grammar", "folded", "configuration"],
        "derivations": ["grammar", "folded", "configuration"],
        "reasons": ["grammar", "folded", "configuration", "tree"],
        "is_allowed": ["grammar", "folded", "configuration", "tree"],
    },
    "forests": {
        "make_forest": ["grammar", "folded"],
        "span_diagram": ["forest", "span"],
        "roots": ["grammar", "folded", "forest"],
    },
    "trees": {
        "whole_span": ["grammar", "folded", "configuration"],
        "count_trees": ["grammar", "forest", "span", "configuration"],
        "trees_of": ["grammar", "forest", "span", "configuration"],
        "trees_at": ["grammar", "folded", "forest", "configuration"],
    },
    "alive": {
        "alive_forest": ["grammar", "folded", "forest"],
        "allowed_below": ["grammar", "rule", "place", "alternatives"],
        "count_alive": ["grammar", "alive", "span", "configuration"],
        "alive_trees": ["grammar", "folded", "alive", "configuration"],
    },
    "conditions": {
        "conditions": ["grammar", "folded", "alive"],
    },
    "items": {
        "ways": ["grammar", "folded", "items", "item"],
        "covers": ["folded", "item"],
    },
    "papers": {
        "check_paper": ["grammar", "folded", "count", "paper"],
        "check_report": ["grammar", "folded", "count", "conditions", "report"],
    },
    "reports": {
        "nothing_paper": ["grammar", "folded", "diagram"],
        "once_paper": ["grammar", "folded", "diagram"],
        "make_report": ["grammar", "folded", "count"],
    },
    "projects": {
        "read_project": ["text"],
        "project_text": ["project"],
        "shelf_of": ["project"],
    },
    "sessions": {
        "tree_text": ["tree"],
    },
}

CONSTANTS = {
    "tokens": ["MARKS", "MAX_TOKENS"],
    "grammars": ["MAX_PARTS", "MAX_RULES"],
}

# Each class with its bases and the arguments of its __init__, None without one.
CLASSES = {
    "errors": {
        "FoldError": (["ValueError"], None),
        "BadFormula": (["FoldError"], None),
        "BadShelf": (["FoldError"], ["self", "file", "line", "word"]),
        "BadToken": (["FoldError"], ["self", "row", "column"]),
        "BadGrammar": (["FoldError"], ["self", "line"]),
        "TooMany": (["FoldError"], None),
        "NotAllowed": (["FoldError"], None),
    },
    "desks": {
        "Desk": ([], ["self", "grammar", "switches", "shelf", "name"]),
    },
    "sessions": {
        "Session": ([], ["self", "project"]),
    },
}

METHODS = {
    ("desks", "Desk"): {
        "edit": ["self", "file", "first", "count", "lines"],
        "drop": ["self", "file"],
        "text": ["self", "file"],
        "files": ["self"],
        "folded": ["self"],
        "forest": ["self"],
        "alive": ["self"],
        "conditions": ["self"],
        "read": ["self"],
    },
    ("sessions", "Session"): {
        "run": ["self", "line"],
        "desk": ["self"],
    },
}


def definitions(module, kind):
    tree = ast.parse((PACKAGE / (module + ".py")).read_text(encoding="utf-8"))
    return {node.name: node for node in tree.body if isinstance(node, kind)}


def argument_names(function):
    return [argument.arg for argument in function.args.args]


class InterfaceTest(unittest.TestCase):
    def test_functions(self):
        for module, functions in FUNCTIONS.items():
            found = definitions(module, ast.FunctionDef)
            for name, arguments in functions.items():
                self.assertIn(name, found, module)
                self.assertEqual(argument_names(found[name]), arguments, name)

    def test_constants(self):
        for module, names in CONSTANTS.items():
            tree = ast.parse((PACKAGE / (module + ".py")).read_text(encoding="utf-8"))
            found = [target.id for node in tree.body if isinstance(node, ast.Assign) for target in node.targets]
            for name in names:
                self.assertIn(name, found, module)

    def test_classes(self):
        for module, classes in CLASSES.items():
            found = definitions(module, ast.ClassDef)
            for name, (bases, arguments) in classes.items():
                self.assertIn(name, found, module)
                self.assertEqual([base.id for base in found[name].bases], bases, name)
                made = [node for node in found[name].body
                        if isinstance(node, ast.FunctionDef) and node.name == "__init__"]
                self.assertEqual([argument_names(node) for node in made], [arguments] if arguments else [])

    def test_methods(self):
        for (module, name), methods in METHODS.items():
            body = definitions(module, ast.ClassDef)[name].body
            found = {node.name: node for node in body if isinstance(node, ast.FunctionDef)}
            for method, arguments in methods.items():
                self.assertIn(method, found, name)
                self.assertEqual(argument_names(found[method]), arguments, method)
                self.assertEqual(found[method].args.defaults, [])

    def test_arguments_are_plain(self):
        for module, functions in FUNCTIONS.items():
            found = definitions(module, ast.FunctionDef)
            for name in functions:
                told = found[name].args
                self.assertFalse(told.vararg or told.kwarg or told.kwonlyargs or told.posonlyargs or told.defaults, name)

    def test_each_module_can_be_imported(self):
        for module in list(FUNCTIONS) + list(CONSTANTS) + list(CLASSES):
            imported = importlib.import_module("oncefolded." + module)
            names = list(FUNCTIONS.get(module, {})) + CONSTANTS.get(module, []) + list(CLASSES.get(module, {}))
            for name in names:
                self.assertTrue(hasattr(imported, name), name)


if __name__ == "__main__":
    unittest.main()
