"""The interface: each name, its arguments, and the file in which it is defined."""

import inspect
import unittest

from btreelog import blocks, errors

CLASSES = {errors: ("StoreError", "BadWidth", "BadRoom", "BadKey", "BadValue", "NotThere", "Broken")}
FUNCTIONS = {
    blocks: {
        "is_key": ["thing"],
        "is_value": ["thing"],
        "half": ["width"],
        "place": ["pairs", "key"],
        "parts": ["pairs", "width"],
        "is_block": ["thing", "least", "most"],
    },
}


class InterfaceTest(unittest.TestCase):
    def test_each_class_is_defined_in_its_file(self):
        for module, names in CLASSES.items():
            for name in names:
                with self.subTest(name=name):
                    found = getattr(module, name)
                    self.assertTrue(inspect.isclass(found))
                    self.assertEqual(found.__module__, module.__name__)
                    self.assertEqual(found.__name__, name)

    def test_each_function_is_defined_in_its_file(self):
        for module, functions in FUNCTIONS.items():
            for name in functions:
                with self.subTest(name=name):
                    found = getattr(module, name)
                    self.assertTrue(inspect.isfunction(found))
                    self.assertEqual(found.__module__, module.__name__)
                    self.assertEqual(found.__name__, name)

    def test_each_function_has_its_arguments_by_their_names(self):
        for module, functions in FUNCTIONS.items():
            for name, arguments in functions.items():
                with self.subTest(name=name):
                    signature = inspect.signature(getattr(module, name))
                    self.assertEqual(list(signature.parameters), arguments)
                    for told in signature.parameters.values():
                        self.assertEqual(told.kind, inspect.Parameter.POSITIONAL_OR_KEYWORD)
                        self.assertIs(told.default, inspect.Parameter.empty)


if __name__ == "__main__":
    unittest.main()
