"""The interface: its functions stand in their files, with the names of their arguments."""

import importlib
import inspect
import unittest

FUNCTIONS = {
    "stripestack.schema": {
        "check_schema": ["schema"],
        "columns_of": ["schema"],
        "paths_of": ["schema"],
        "column_of": ["schema", "path"],
        "project_schema": ["schema", "paths"],
    },
    "stripestack.records": {
        "check_record": ["schema", "record"],
        "is_value": ["kind", "value"],
        "project_record": ["schema", "wanted", "record"],
    },
    "stripestack.shred": {
        "shred": ["schema", "records"],
        "assemble": ["schema", "columns"],
    },
    "stripestack.numbers": {
        "put_number": ["number"],
        "put_word": ["number"],
        "fold_sign": ["number"],
        "unfold_sign": ["number"],
        "width_of": ["most"],
        "pack": ["numbers", "width"],
        "take_number": ["data", "at"],
        "take_word": ["data", "at"],
        "unpack": ["data", "at", "count", "width"],
    },
    "stripestack.levels": {
        "put_levels": ["numbers", "most"],
        "take_levels": ["data", "at", "count", "most"],
    },
    "stripestack.values": {
        "allowed": ["kind"],
        "put_one": ["kind", "value"],
        "put_values": ["kind", "values", "encoding"],
        "take_one": ["kind", "data", "at"],
        "take_values": ["kind", "data", "at", "count", "encoding"],
    },
    "stripestack.pages": {
        "put_page": ["column", "entries", "encoding"],
        "take_page": ["column", "data", "encoding"],
        "mark_of": ["kind", "value"],
        "has_mark": ["sieve", "mark"],
        "told_of": ["column", "entries"],
        "put_told": ["column", "told"],
        "take_told": ["column", "data", "at"],
    },
    "stripestack.files": {
        "check_layout": ["schema", "layout"],
        "plain_layout": ["schema", "size"],
        "write_groups": ["schema", "groups"],
        "read_groups": ["data"],
    },
    "stripestack.conditions": {
        "check_condition": ["schema", "condition"],
        "condition_paths": ["condition"],
        "holds": ["condition", "values"],
        "verdict": ["condition", "kinds", "told"],
    },
    "stripestack.reader": {
        "read": ["data", "paths", "condition"],
        "touched_pages": ["data", "paths", "condition"],
    },
    "stripestack.writer": {
        "merge": ["files"],
    },
    "stripestack.evolve": {
        "check_fit": ["elder", "newer", "path"],
        "fits": ["elder", "newer"],
        "change_record": ["elder", "newer", "record"],
        "read_as": ["data", "schema"],
    },
}
CLASSES = {
    "stripestack.files": {
        "Opened": {
            "__init__": ["self", "data"],
            "entries": ["self", "group", "column", "page"],
            "group_records": ["self", "group"],
        },
    },
    "stripestack.writer": {
        "Writer": {
            "__init__": ["self", "schema", "layout", "group_size"],
            "add": ["self", "record"],
            "flush": ["self"],
            "finish": ["self"],
        },
    },
}


class InterfaceTest(unittest.TestCase):
    def test_functions_stand_in_their_files(self):
        for file, functions in FUNCTIONS.items():
            module = importlib.import_module(file)
            for name in functions:
                with self.subTest(file=file, name=name):
                    self.assertTrue(inspect.isfunction(getattr(module, name)))
                    self.assertEqual(getattr(module, name).__module__, file)

    def test_functions_take_the_arguments_of_the_interface(self):
        for file, functions in FUNCTIONS.items():
            module = importlib.import_module(file)
            for name, arguments in functions.items():
                with self.subTest(file=file, name=name):
                    self.assertEqual(list(inspect.signature(getattr(module, name)).parameters), arguments)

    def test_classes_stand_in_their_files(self):
        for file, classes in CLASSES.items():
            module = importlib.import_module(file)
            for name in classes:
                with self.subTest(file=file, name=name):
                    self.assertTrue(inspect.isclass(getattr(module, name)))
                    self.assertEqual(getattr(module, name).__module__, file)

    def test_methods_stand_in_their_classes_and_take_their_arguments(self):
        for file, classes in CLASSES.items():
            for name, methods in classes.items():
                own = vars(getattr(importlib.import_module(file), name))
                for method, arguments in methods.items():
                    with self.subTest(file=file, name=name, method=method):
                        self.assertEqual(list(inspect.signature(own[method]).parameters), arguments)


if __name__ == "__main__":
    unittest.main()
