"""Tests that the names and arguments of the document's interface exist as written."""

import importlib
import inspect
import unittest

FUNCTIONS = {
    "nearvault.points": {
        "distance": ["metric", "a", "b"],
        "write_number": ["width", "number"],
        "read_number": ["data", "place", "width"],
        "write_point": ["point"],
        "read_point": ["data", "place", "dimensions"],
    },
    "nearvault.log": {
        "write_group": ["pairs"],
        "read_groups": ["data"],
    },
    "nearvault.checker": {
        "check_pages": ["pager"],
    },
}

METHODS = {
    "nearvault.device": {
        "Device": {
            "__init__": [],
            "write_page": ["number", "data"],
            "sync_pages": [],
            "append": ["data"],
            "clear": [],
            "sync_log": [],
            "page": ["number"],
            "log": [],
            "limit": ["steps"],
            "crash": ["fates", "kept"],
            "steps": [],
            "pending": [],
        },
    },
    "nearvault.pager": {
        "Pager": {
            "__init__": ["device"],
            "read": ["number"],
            "write": ["number", "data"],
            "allocate": [],
            "release": ["number"],
            "field": ["k"],
            "set_field": ["k", "number"],
            "commit": [],
            "checkpoint": [],
            "rollback": [],
        },
    },
    "nearvault.keytree": {
        "KeyTree": {
            "__init__": ["pager", "root", "dimensions"],
            "insert": ["entry"],
            "replace": ["key", "begin", "end"],
            "delete": ["key", "begin"],
            "entries": ["low", "high"],
            "pages": [],
        },
    },
    "nearvault.metrictree": {
        "MetricTree": {
            "__init__": ["pager", "root", "dimensions", "metric"],
            "insert": ["item"],
            "delete": ["item"],
            "nearest": ["point", "count", "accepts"],
            "all_items": [],
            "pages": [],
        },
    },
    "nearvault.store": {
        "Store": {
            "__init__": ["device", "dimensions", "metric"],
            "begin": [],
            "snapshot": ["transaction"],
            "put": ["transaction", "key", "point", "payload"],
            "delete": ["transaction", "key"],
            "abort": ["transaction"],
            "get": ["transaction", "key"],
            "between": ["transaction", "low", "high"],
            "nearest": ["transaction", "point", "count", "low", "high"],
            "commit": ["transaction"],
            "vacuum": [],
            "checkpoint": [],
            "last_commit": [],
            "versions": [],
        },
    },
    "nearvault.server": {
        "Server": {
            "__init__": ["store"],
            "start": [],
            "receive": ["session", "data"],
            "end": ["session"],
        },
    },
}

ERRORS = ("VaultError", "PowerCut", "Conflict", "NoTransaction", "WrongStore")


def parameters(function):
    return list(inspect.signature(function).parameters)


class InterfaceTest(unittest.TestCase):
    def test_functions(self):
        for module, functions in FUNCTIONS.items():
            for name, arguments in functions.items():
                with self.subTest(module=module, name=name):
                    function = getattr(importlib.import_module(module), name)
                    self.assertEqual(function.__module__, module)
                    self.assertEqual(parameters(function), arguments)

    def test_methods_stand_in_the_class_itself(self):
        for module, classes in METHODS.items():
            for name, methods in classes.items():
                box = getattr(importlib.import_module(module), name)
                self.assertEqual(box.__module__, module)
                for method, arguments in methods.items():
                    with self.subTest(module=module, name=name, method=method):
                        self.assertIn(method, vars(box))
                        self.assertEqual(parameters(vars(box)[method])[1:], arguments)

    def test_errors(self):
        for name in ERRORS:
            with self.subTest(name=name):
                kind = getattr(importlib.import_module("nearvault.errors"), name)
                self.assertEqual(kind.__module__, "nearvault.errors")


if __name__ == "__main__":
    unittest.main()
