"""The interface: what it lists is defined in the file under which it stands."""

import ast
import unittest
from pathlib import Path

PACKAGE = Path(__file__).resolve().parent.parent / "fairsplit"

CLASSES = ["SplitError", "NoPeople", "TooMany", "Uneven", "BadBid", "NoDeal", "NoPerson", "NoGood", "NoText"]

FUNCTIONS = {
    "worths.py": {
        "worth": ["row", "heap"],
        "gains": ["bids", "heaps", "sums"],
        "envies": ["bids", "heaps", "sums"],
        "fair": ["bids", "heaps", "sums"],
    },
    "heaps.py": {"in_heaps": ["bids"]},
    "rooms.py": {"in_rooms": ["bids"]},
    "notes.py": {"shown": ["bids"], "read": ["text"]},
}

TABLE = {
    "come": ["self", "row"],
    "leave": ["self", "person"],
    "put": ["self", "column"],
    "take": ["self", "good"],
    "bid": ["self", "person", "good", "amount"],
    "back": ["self"],
    "rows": ["self"],
    "in_heaps": ["self"],
    "in_rooms": ["self"],
}


def defined(name, kind):
    tree = ast.parse((PACKAGE / name).read_text(encoding="utf-8"))
    return {node.name: node for node in tree.body if isinstance(node, kind)}


class Interface(unittest.TestCase):
    def test_classes(self):
        found = defined("errors.py", ast.ClassDef)
        for name in CLASSES:
            self.assertIn(name, found)

    def test_functions_and_their_arguments(self):
        for file, functions in FUNCTIONS.items():
            found = defined(file, ast.FunctionDef)
            for name, arguments in functions.items():
                with self.subTest(file=file, name=name):
                    self.assertIn(name, found)
                    self.assertEqual([arg.arg for arg in found[name].args.args], arguments)

    def test_methods_and_their_arguments(self):
        body = defined("tables.py", ast.ClassDef)["Table"].body
        found = {node.name: node for node in body if isinstance(node, ast.FunctionDef)}
        for name, arguments in TABLE.items():
            with self.subTest(name=name):
                self.assertIn(name, found)
                self.assertEqual([arg.arg for arg in found[name].args.args], arguments)

    def test_it_is_a_package(self):
        self.assertTrue((PACKAGE / "__init__.py").is_file())


if __name__ == "__main__":
    unittest.main()
