"""The names and the parameters of the interface, each in the file under which the document lists it."""

import ast
import importlib
import unittest
from pathlib import Path

ROOT = Path(__file__).resolve().parent.parent
BOOK = ("paper", "sequence")
TWO = ("paper", "first", "second")
OBSERVED = ("paper", "sequence", "observations")
COUNTED = ("marks", "sheets")
INTERFACE = {
    "papers": {
        "is_paper": ("value",), "is_sequence": ("paper", "value"), "reflected": BOOK, "own_marks": ("paper",),
        "mark_pairs": ("paper",),
    },
    "alike": {
        "count_renamings": ("paper",), "nth_renaming": ("paper", "index"), "first_alike": BOOK, "count_alike": BOOK,
        "renaming": TWO, "accepts_renaming": (*TWO, "value"),
    },
    "gatherings": {
        "is_gathering": BOOK, "mismatch": BOOK, "accepts_mismatch": (*BOOK, "value"), "sheets": BOOK,
        "doubled": BOOK, "closed": BOOK,
    },
    "centers": {
        "radius": (*BOOK, "opening"), "radii": BOOK, "gatherings_within": BOOK, "largest_within": BOOK,
    },
    "factors": {
        "split": BOOK, "ends": BOOK, "closing_mark": BOOK, "appended": BOOK, "prepended": BOOK, "completion": BOOK,
    },
    "collations": {
        "is_collation": (*BOOK, "value"), "count_collations": BOOK, "count_with": (*BOOK, "many"),
        "nth_collation": (*BOOK, "index"), "index_of_collation": (*BOOK, "value"),
        "next_collation": (*BOOK, "collation"), "fewest": BOOK, "largest": BOOK,
    },
    "rests": {"sequence_evidence": BOOK, "accepts_sequence": (*BOOK, "value")},
    "certainty": {
        "is_only": BOOK, "reason": BOOK, "share": (*BOOK, "opening"), "sure_boundaries": BOOK, "possible_centers": BOOK,
        "possibly_conjugate": (*BOOK, "leaf"), "sure_pairs": BOOK,
    },
    "grounds": {"only_evidence": BOOK, "accepts_only": (*BOOK, "value")},
    "copies": {
        "finest_common": ("copies",), "count_common": ("copies",), "sufficient": ("copies",),
        "conflict": ("copies", "collation"), "excluded": ("copies", "copy"),
    },
    "together": {"common_evidence": ("copies",), "accepts_common": ("copies", "value")},
    "missing": {
        "fewest_missing": BOOK, "told_pairs": BOOK, "accepts_pairs": (*BOOK, "value"), "restored": (*BOOK, "pairs"),
        "paired_with": (*BOOK, "leaf"), "always_paired": BOOK, "never_paired": BOOK,
    },
    "nests": {"missing_evidence": BOOK, "accepts_missing": (*BOOK, "many", "value")},
    "misread": {
        "fewest_misread": BOOK, "told_way": BOOK, "ways": BOOK, "nearest": BOOK, "doubtful": BOOK,
        "possible_marks": (*BOOK, "leaf"),
    },
    "bounds": {"misread_evidence": BOOK, "accepts_misread": (*BOOK, "many", "value")},
    "threads": {
        "count_agreeing": OBSERVED, "nearest_collation": OBSERVED, "implied": OBSERVED, "fails_at": OBSERVED,
        "next_opening": OBSERVED, "looks_of": (*BOOK, "collation"), "accepts_open": (*OBSERVED, "opening", "value"),
    },
    "counting": {
        "count_gatherings": COUNTED, "count_primes": COUNTED, "count_collatable": COUNTED,
        "count_with_factors": (*COUNTED, "factors"), "count_collations": COUNTED, "count_only": COUNTED,
    },
    "scanning": {"scan": ("text",)},
    "reading": {"next_tokens": ("text", "kind"), "read_book": ("text",), "read_collation": ("text",)},
    "writing": {"book_text": BOOK, "collation_text": ("collation",)},
    "journals": {"replayed": ("paper", "journal"), "are_right": ("paper", "records")},
}
# For each class, its parameters and those of its methods.
CLASSES = {
    "collection": {
        "Collection": {
            "__init__": ("paper",), "act": ("command",), "undo": (), "books": (), "journal": (), "factors": ("book",),
            "partners": ("book", "leaf"), "records": (), "twin": (),
        },
    },
}
ERRORS = {"QuireError": "ValueError", "BadValue": "QuireError", "TooLarge": "QuireError", "NotPossible": "QuireError",
          "TextError": "QuireError"}


def top_level(module, kind):
    tree = ast.parse((ROOT / "quiremarks" / f"{module}.py").read_text(encoding="utf-8"))
    return {node.name: node for node in tree.body if isinstance(node, kind)}


class InterfaceTest(unittest.TestCase):
    def test_each_function_is_defined_in_its_file_with_its_parameters(self):
        for module, functions in INTERFACE.items():
            defined = top_level(module, ast.FunctionDef)
            imported = importlib.import_module(f"quiremarks.{module}")
            for name, parameters in functions.items():
                with self.subTest(module=module, name=name):
                    found = defined[name].args
                    self.assertEqual(tuple(arg.arg for arg in found.args), parameters)
                    self.assertEqual(found.defaults, [])
                    self.assertTrue(callable(getattr(imported, name)))

    def test_each_class_is_defined_in_its_file_with_its_methods(self):
        for module, classes in CLASSES.items():
            defined = top_level(module, ast.ClassDef)
            imported = importlib.import_module(f"quiremarks.{module}")
            for name, methods in classes.items():
                self.assertTrue(isinstance(getattr(imported, name), type))
                found = {node.name: node.args for node in defined[name].body if isinstance(node, ast.FunctionDef)}
                for method, parameters in methods.items():
                    with self.subTest(name=name, method=method):
                        self.assertEqual(tuple(arg.arg for arg in found[method].args), ("self", *parameters))
                        self.assertEqual(found[method].defaults, [])

    def test_each_error_is_defined_in_errors(self):
        defined = top_level("errors", ast.ClassDef)
        self.assertEqual({name: node.bases[0].id for name, node in defined.items()}, ERRORS)


if __name__ == "__main__":
    unittest.main()
