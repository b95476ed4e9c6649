"""The interface: its functions stand in their files, with the names of their arguments."""

import importlib
import inspect
import unittest

FUNCTIONS = {
    "stripestack.schema": {
        "check_schema": ["schema"],
        "columns_of": ["schema"],
        "paths_of": ["schema"],
        "column_of": ["schema", "path"],
        "project_schema": ["schema", "paths"],
    },
    "stripestack.records": {
        "check_record": ["schema", "record"],
        "is_value": ["kind", "value"],
        "project_record": ["schema", "wanted", "record"],
    },
    "stripestack.shred": {
        "shred": ["schema", "records"],
        "assemble": ["schema", "columns"],
    },
    "stripestack.numbers": {
        "put_number": ["number"],
        "put_word": ["number"],
        "fold_sign": ["number"],
        "unfold_sign": ["number"],
        "width_of": ["most"],
        "pack": ["numbers", "width"],
        "take_number": ["data", "at"],
        "take_word": ["data", "at"],
        "unpack": ["data", "at", "count", "width"],
    },
    "stripestack.levels": {
        "put_levels": ["numbers", "most"],
        "take_levels": ["data", "at", "count", "most"],
    },
}


class InterfaceTest(unittest.TestCase):
    def test_functions_stand_in_their_files(self):
        for file, functions in FUNCTIONS.items():
            module = importlib.import_module(file)
            for name in functions:
                with self.subTest(file=file, name=name):
                    self.assertTrue(inspect.isfunction(getattr(module, name)))
                    self.assertEqual(getattr(module, name).__module__, file)

    def test_functions_take_the_arguments_of_the_interface(self):
        for file, functions in FUNCTIONS.items():
            module = importlib.import_module(file)
            for name, arguments in functions.items():
                with self.subTest(file=file, name=name):
                    self.assertEqual(list(inspect.signature(getattr(module, name)).parameters), arguments)


if __name__ == "__main__":
    unittest.main()
