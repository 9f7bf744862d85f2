"""The interface of DOC.md, and those rules of LANGUAGE.md that a look at the files can tell."""

import ast
import doctest
import importlib
import inspect
import pathlib
import unittest

FOLDER = pathlib.Path(__file__).resolve().parent.parent / "tabletalk"

# The functions of the interface with their arguments, by the file that defines them.
INTERFACE = {
    "tables": {"is_scope": "value", "is_table": "values scope value", "is_message": "values some value"},
    "joins": {
        "as_message": "values scope table",
        "project": "values some message kept",
        "join": "values some message others other",
        "early": "values some message others other kept",
        "restrict": "values some message variable value",
        "total": "values some message",
    },
    "solutions": {
        "is_graph": "value",
        "are_tables": "graph value",
        "variables": "graph",
        "count_solutions": "graph tables",
        "nth_solution": "graph tables index",
        "index_of_solution": "graph tables row",
        "rejecting": "graph tables row",
    },
    "projections": {"projection": "graph tables some", "part_projection": "graph tables nodes some"},
    "graphs": {
        "shared_variables": "graph one other",
        "told_way": "graph one other",
        "is_junction_tree": "graph",
        "two_counts": "graph",
    },
    "defects": {
        "defect": "graph",
        "accepts_defect": "graph value",
        "good_order": "graph",
        "accepts_order": "graph value",
    },
    "messages": {
        "are_messages": "graph value",
        "required_message": "graph tables messages one other",
        "inconsistent": "graph tables messages",
        "belief": "graph tables messages node",
        "total": "graph messages edge",
    },
    "rounds": {"computed_messages": "graph tables", "count_rounds": "graph tables"},
    "trust": {
        "is_trusted": "graph",
        "deceived": "graph tables messages",
        "misjudged": "graph tables messages node",
        "told_counterexample": "graph",
        "is_counterexample": "graph value",
    },
    "silence": {"silent": "graph", "other_messages": "graph"},
    "costs": {
        "value_counts": "graph tables variable",
        "cheapest": "graph tables many",
        "excesses": "graph tables node",
        "moved": "graph tables one other row amount",
    },
    "bounds": {
        "totals_evidence": "graph tables",
        "accepts_totals": "graph tables count least value",
        "told_potentials": "graph tables",
        "accepts_bound": "graph tables bound value",
        "accepts_cheapest": "graph tables row value",
    },
    "late": {
        "is_action": "graph value",
        "tables_behind": "graph tables actions",
        "on_the_way": "graph tables actions",
        "effects": "graph tables actions",
        "is_settled": "graph tables actions",
        "beliefs": "graph tables actions",
        "kept": "graph tables actions",
    },
    "edges": {
        "makes_tree": "scopes edges",
        "count_making": "scopes",
        "first_making": "scopes",
        "shared_number": "scopes edges",
        "due_number": "scopes",
        "most_shared": "scopes",
        "told_tree": "scopes",
        "accepts_additions": "scopes edges value",
    },
    "removals": {"edge_evidence": "scopes", "accepts_removal": "scopes value"},
    "questions": {
        "what_if": "graph tables variable value",
        "sure_values": "graph tables",
        "implied": "graph tables variable value",
        "possible_values": "graph tables variable",
    },
    "verdicts": {
        "verdict": "graph tables variable value",
        "verdict_evidence": "graph tables variable value",
        "accepts_verdict": "graph tables variable value evidence",
    },
    "enough": {
        "is_enough": "graph tables nodes variable value",
        "smallest_enough": "graph tables variable value",
        "needed": "graph tables variable value",
    },
    "scanning": {"scan": "text"},
    "reading": {"next_tokens": "text kind", "read_graph": "text", "read_tables": "graph text"},
    "writing": {"graph_text": "graph", "tables_text": "graph tables"},
    "journals": {"replayed": "graph journal", "are_right": "graph records"},
}
# The methods of the class of the interface, with their arguments.
NETWORK = {
    "act": "command", "undo": "", "tables": "", "journal": "", "on_the_way": "", "is_settled": "", "belief": "node",
    "total": "", "records": "", "twin": "",
}
LIBRARY = {"heapq", "math", "itertools", "collections"}


def files():
    return sorted(FOLDER.rglob("*.py"))


def trees():
    return [(path.name, ast.parse(path.read_text(encoding="utf-8"))) for path in files()]


class InterfaceTest(unittest.TestCase):
    def test_functions_with_their_arguments(self):
        for name, functions in INTERFACE.items():
            module = importlib.import_module("tabletalk." + name)
            for word, arguments in functions.items():
                function = getattr(module, word)
                self.assertEqual(arguments.split(), list(inspect.signature(function).parameters), word)
                self.assertEqual("tabletalk." + name, function.__module__, word)

    def test_class_with_its_methods(self):
        from tabletalk.network import Network
        self.assertEqual("tabletalk.network", Network.__module__)
        self.assertEqual(["graph"], list(inspect.signature(Network).parameters))
        for name, arguments in NETWORK.items():
            # Each method is defined in the class itself.
            method = vars(Network)[name]
            self.assertEqual(["self"] + arguments.split(), list(inspect.signature(method).parameters), name)

    def test_all_modules(self):
        listed = set(INTERFACE) | {"errors", "network", "checks", "__init__"}
        self.assertEqual(listed, {path.stem for path in files()})

    def test_arguments_by_keyword(self):
        from tabletalk.joins import project
        self.assertEqual((((), 1, 2),), project(kept=(), message=(((0,), 1, 2),), some=(0,), values=2))


class ReadmeTest(unittest.TestCase):
    def test_examples(self):
        told = doctest.testfile(str(FOLDER.parent / "README.md"), module_relative=False, encoding="utf-8")
        self.assertEqual(0, told.failed)
        self.assertLess(0, told.attempted)


class LanguageTest(unittest.TestCase):
    def test_nothing_else_is_in_the_folder(self):
        for path in FOLDER.rglob("*"):
            if "__pycache__" not in path.parts:
                self.assertTrue(path.is_dir() or path.suffix == ".py", path)

    def test_sizes_and_characters(self):
        for path in files():
            text = path.read_bytes().decode("ascii")
            self.assertTrue(all(sign == "\n" or " " <= sign <= "~" for sign in text), path)
            lines = text.split("\n")
            self.assertLess(len(lines), 400, path)
            self.assertLessEqual(max(len(line) for line in lines), 120, path)

    def test_functions_have_at_most_40_lines(self):
        for name, tree in trees():
            for node in ast.walk(tree):
                if isinstance(node, ast.FunctionDef):
                    self.assertLessEqual(node.end_lineno - node.lineno + 1, 40, (name, node.name))

    def test_imports(self):
        for name, tree in trees():
            for node in ast.walk(tree):
                self.assertNotIsInstance(node, ast.Import, name)
                if isinstance(node, ast.ImportFrom):
                    self.assertEqual(0, node.level, name)
                    inside = node.module.startswith("tabletalk.")
                    self.assertTrue(inside or node.module in LIBRARY, (name, node.module))
                    if inside:
                        self.assert_defined(node)

    def assert_defined(self, node):
        """Each imported name is defined in the very file that the import names."""
        tree = ast.parse((FOLDER / (node.module.split(".")[1] + ".py")).read_text(encoding="utf-8"))
        defined = {one.name for one in tree.body if isinstance(one, (ast.FunctionDef, ast.ClassDef))}
        defined |= {target.id for one in tree.body if isinstance(one, ast.Assign) for target in one.targets}
        for alias in node.names:
            self.assertIn(alias.name, defined, node.module)

    def test_no_state_at_module_level(self):
        for name, tree in trees():
            for node in tree.body:
                plain = (ast.Assign, ast.FunctionDef, ast.ClassDef, ast.ImportFrom)
                docstring = isinstance(node, ast.Expr) and isinstance(node.value, ast.Constant)
                self.assertTrue(docstring or isinstance(node, plain), (name, node.lineno))


if __name__ == "__main__":
    unittest.main()
