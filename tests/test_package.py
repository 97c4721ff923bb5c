"""The interface stands where the document lists it, and the files keep to the sizes and signs allowed."""

import ast
import inspect
import unittest
from importlib import import_module
from pathlib import Path

FOLDER = Path(__file__).resolve().parent.parent / "scatteredpieces"
INTERFACE = {
    "texts": {
        "is_text": ["value"], "is_letters": ["value"], "holds": ["text", "piece"], "first_places": ["text", "piece"],
        "last_places": ["text", "piece"], "pieces": ["text", "length"],
    },
    "counts": {"counts": ["text"], "nth_piece": ["text", "length", "number"], "number_of": ["text", "piece"]},
    "ways": {
        "ahead": ["text"], "behind": ["text"], "leads": ["text", "place"], "are_leads": ["text", "place", "value"],
    },
    "likeness": {
        "parting": ["one", "other"], "alike": ["one", "other", "k"], "likeness": ["one", "other"],
        "table": ["one", "other", "k"], "is_table": ["one", "other", "k", "value"],
    },
    "shortest": {
        "spare_places": ["text", "k"], "stepped": ["text", "k", "step"], "shortest": ["text", "k"],
        "steps": ["text", "k"], "are_steps": ["one", "other", "k", "value"],
    },
    "full": {
        "rounds": ["text", "letters"], "fullness": ["text", "letters"], "missing": ["text", "letters"],
        "missing_count": ["text", "letters"],
    },
    "kinds": {"Kind": ["text", "k"], "ground": ["letters", "k"], "is_ground": ["letters", "k", "value"]},
    "sayings": {
        "is_saying": ["value"], "reach": ["saying"], "keeps": ["text", "saying"], "least_text": ["saying", "letters"],
        "apart": ["one", "other", "letters"],
    },
    "machines": {
        "Machine": ["letters", "rows", "lets"], "told_by": ["machine", "k"], "pairs": ["machine", "k"],
        "is_pairs": ["machine", "k", "value"], "split_by": ["machine", "k"], "kinds_of": ["machine", "k"],
        "least_reach": ["machine", "most"],
    },
    "rolls": {"Roll": [], "replayed": ["events"]},
    "signs": {
        "format_saying": ["saying"], "format_machine": ["machine"], "read_saying": ["signs"], "read_machine": ["signs"],
    },
    "compiling": {
        "machine_of": ["saying", "letters"], "opposite": ["machine"], "fewest": ["machine"], "few_paper": ["machine"],
        "is_few_paper": ["machine", "value"], "parted": ["one", "other"], "shared": ["one", "other"],
        "is_shared": ["one", "other", "value"],
    },
}
# The methods that are not signs, each one defined in the class itself.
METHODS = {
    ("kinds", "Kind"): {"within": ["other"], "idle_behind": ["letters"], "idle_ahead": ["letters"]},
    ("machines", "Machine"): {"lets_by": ["text"], "least_text": []},
    ("rolls", "Roll"): {
        "put_behind": ["letter"], "put_ahead": ["letter"], "strike": ["place"], "undo": [], "fork": [], "kind": ["k"],
        "says_more": ["k"],
    },
}
SIGNS = {
    ("kinds", "Kind"): ["__init__", "__eq__", "__add__", "__mul__"], ("machines", "Machine"): ["__init__", "__eq__"],
    ("rolls", "Roll"): ["__init__"],
}
PROPERTIES = {("machines", "Machine"): ["letters", "rows", "lets"], ("rolls", "Roll"): ["text", "history"]}


class PackageTest(unittest.TestCase):
    def test_interface(self):
        for file, functions in INTERFACE.items():
            module = import_module("scatteredpieces." + file)
            for name, parameters in functions.items():
                with self.subTest(file=file, name=name):
                    function = getattr(module, name)
                    self.assertEqual(function.__module__, module.__name__)
                    self.assertEqual(list(inspect.signature(function).parameters), parameters)

    def test_methods(self):
        for (file, name), methods in METHODS.items():
            own = vars(getattr(import_module("scatteredpieces." + file), name))
            for method, parameters in methods.items():
                with self.subTest(file=file, name=name, method=method):
                    self.assertEqual(list(inspect.signature(own[method]).parameters)[1:], parameters)
            for sign in SIGNS[file, name]:
                self.assertIn(sign, own)
            for name_of_property in PROPERTIES.get((file, name), []):
                self.assertIs(type(own[name_of_property]), property)

    def test_errors_are_defined_in_their_file(self):
        module = import_module("scatteredpieces.errors")
        for kind in module.PieceError.__subclasses__() + [module.PieceError]:
            self.assertEqual(kind.__module__, module.__name__)

    def test_only_python_files(self):
        others = [path.name for path in FOLDER.rglob("*") if path.suffix != ".py" and "__pycache__" not in path.parts]
        self.assertEqual(others, [])

    def test_sizes_and_signs(self):
        for path in FOLDER.rglob("*.py"):
            with self.subTest(path=path.name):
                source = path.read_text(encoding="utf-8")
                lines = source.split("\n")
                self.assertLess(len(lines), 400)
                self.assertLessEqual(max(len(line) for line in lines), 120)
                self.assertTrue(all(sign == "\n" or " " <= sign <= "~" for sign in source))
                for node in ast.walk(ast.parse(source)):
                    if isinstance(node, ast.FunctionDef):
                        self.assertLessEqual(node.end_lineno - node.lineno + 1, 40)


if __name__ == "__main__":
    unittest.main()
