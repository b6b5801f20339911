"""The files of the package: the rules of LANGUAGE.md, and the interface, each name in its file."""

import ast
import pathlib
import unittest

import rules

PACKAGE = pathlib.Path(__file__).resolve().parent.parent / "sealchart"
FILES = sorted(path for path in PACKAGE.rglob("*") if path.is_file() and "__pycache__" not in path.parts)
# The functions and classes of each file with their arguments, and the methods of a class behind its name.
INTERFACE = {
    "errors": {
        "ChartError": {}, "BadText": {}, "BadDocument": {}, "BadKey": {}, "BadState": {}, "DiskError": {},
        "DiskCrashed": {}, "Refused": {"__init__": ["reason"]}, "BadAct": {"__init__": ["reason"]},
    },
    "texts": {
        "is_printable": ["value"], "is_integer": ["value", "least", "greatest"], "encode": ["value"],
        "decode": ["text"],
    },
    "names": {
        "is_list_name": ["value"], "is_key": ["value"], "is_path": ["value"], "is_pattern": ["value"],
        "matches": ["pattern", "path"],
    },
    "digests": {"digest": ["text"]},
    "seals": {"Seals": {"make": ["key", "text"], "holds": ["key", "text", "mark"], "count": []}},
    "envelope": {
        "seal": ["office", "text", "keys"], "opened": ["sealed"], "support": ["office", "sealed", "keys"],
    },
    "documents": {
        "is_role": ["value"], "is_digest": ["value"], "is_grant": ["value"], "is_charter": ["value"],
        "is_stamp": ["value"], "is_shelf": ["value"], "is_list": ["value"], "read": ["kind", "text"],
        "write": ["document"], "covers": ["grant", "path"], "good_of": ["document", "path"],
        "entry_of": ["document", "name"], "published_name": ["document"], "file_name": ["path", "digest"],
    },
    "trusted": {
        "Trusted": {
            "__init__": ["office", "sealed"], "accept_charter": ["sealed"], "accept_stamp": ["sealed"],
            "accept_shelf": ["sealed"], "accept_list": ["name", "sealed", "role"],
            "restore_stamp": ["sealed", "roles"], "restore_shelf": ["sealed"], "outdated": [], "forget": [],
            "is_current": [], "charter": [], "stamp": [], "shelf": [], "list_of": ["name"], "list_role": ["name"],
            "sealed": ["kind"], "roles": [],
        },
        "role_of": ["charter", "name"], "has_expired": ["document", "time"],
    },
    "search": {
        "Search": {"__init__": ["charter", "shelf", "path"], "wanted": [], "give": ["document"], "result": []},
        "lookup": ["charter", "shelf", "lists", "path"],
    },
    "disk": {
        "Disk": {
            "put": ["name", "text"], "remove": ["name"], "read": ["name"], "names": [], "arm": ["count", "kept"],
            "restart": [],
        },
    },
    "vault": {
        "load": ["office", "disk", "first"], "store": ["disk", "trusted", "kind"], "discard": ["disk"],
    },
    "client": {
        "Client": {
            "__init__": ["disk", "office", "first"], "start": ["time"], "look": ["path"], "install": ["path"],
            "give": ["text"], "wanted": [], "status": [], "versions": [], "trusted": [],
        },
    },
    "workshop": {
        "Workshop": {
            "__init__": ["office", "roles", "expires"], "turn": ["roles", "expires"], "put": ["name", "path", "text"],
            "drop": ["name", "path"], "grant": ["name", "grant"], "revoke": ["name", "other"], "publish": ["expires"],
            "renew": ["expires"], "text": ["name"], "names": [], "first": [], "stamps": [], "snapshot": ["version"],
            "charters": [],
        },
    },
}


def module_name(path):
    words = path.relative_to(PACKAGE.parent).with_suffix("").parts
    return ".".join(words[:-1] if words[-1] == "__init__" else words)


def arguments(function):
    return [inner.arg for inner in function.args.args]


class Form(unittest.TestCase):
    def test_there_are_files(self):
        self.assertIn(PACKAGE / "__init__.py", FILES)
        for name in INTERFACE:
            self.assertIn(PACKAGE / (name + ".py"), FILES)

    def test_the_folder_contains_nothing_but_plain_files(self):
        for path in FILES:
            with self.subTest(path.name):
                self.assertRegex(path.name, rules.FILE_NAME)
                self.assertNotRegex(path.stem, "^(law_.*|tests?|testing|test_.*|site|conftest)$")
                path.read_bytes().decode("ascii")

    def test_the_rules_of_the_language(self):
        texts = {module_name(path): path.read_text(encoding="ascii") for path in FILES}
        self.assertEqual(rules.package_faults(texts), [])

    def test_the_interface_is_defined_in_its_files(self):
        for name, words in INTERFACE.items():
            body = ast.parse((PACKAGE / (name + ".py")).read_text(encoding="ascii")).body
            defined = {node.name: node for node in body if isinstance(node, (ast.FunctionDef, ast.ClassDef))}
            for word, told in words.items():
                with self.subTest((name, word)):
                    self.assertIn(word, defined)
                    self.compare(defined[word], told)

    def compare(self, node, told):
        if isinstance(node, ast.FunctionDef):
            self.assertEqual(arguments(node), told)
            return
        methods = {inner.name: inner for inner in node.body if isinstance(inner, ast.FunctionDef)}
        for method, names in told.items():
            self.assertIn(method, methods)
            self.assertEqual(arguments(methods[method]), ["self"] + names)


if __name__ == "__main__":
    unittest.main()
