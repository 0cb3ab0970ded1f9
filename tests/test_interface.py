"""The interface: each name, its arguments, and the file in which it is defined."""

import inspect
import unittest

from btreelog import blocks, disks, errors, stores, trees

CLASSES = {
    errors: ("StoreError", "BadWidth", "BadRoom", "BadKey", "BadValue", "NotThere", "Broken"),
    stores: ("Store",),
}
FUNCTIONS = {
    blocks: {
        "is_key": ["thing"],
        "is_value": ["thing"],
        "half": ["width"],
        "place": ["pairs", "key"],
        "parts": ["pairs", "width"],
        "is_block": ["thing", "least", "most"],
    },
    disks: {
        "done": ["blocks", "log", "deed"],
        "redone": ["blocks", "log"],
    },
    trees: {
        "sound": ["blocks", "width"],
        "value_in": ["blocks", "key"],
        "listed": ["blocks"],
        "put_in": ["blocks", "width", "key", "value"],
        "drop_from": ["blocks", "width", "key"],
    },
    stores: {
        "opened": ["width", "room"],
        "risen": ["width", "room", "blocks", "log"],
    },
}
METHODS = {
    "put": ["key", "value"],
    "drop": ["key"],
    "settle": ["many"],
    "value_at": ["key"],
    "pairs": [],
    "between": ["low", "high"],
}


class InterfaceTest(unittest.TestCase):
    def test_each_class_is_defined_in_its_file(self):
        for module, names in CLASSES.items():
            for name in names:
                with self.subTest(name=name):
                    found = getattr(module, name)
                    self.assertTrue(inspect.isclass(found))
                    self.assertEqual(found.__module__, module.__name__)
                    self.assertEqual(found.__name__, name)

    def test_each_function_is_defined_in_its_file(self):
        for module, functions in FUNCTIONS.items():
            for name in functions:
                with self.subTest(name=name):
                    found = getattr(module, name)
                    self.assertTrue(inspect.isfunction(found))
                    self.assertEqual(found.__module__, module.__name__)
                    self.assertEqual(found.__name__, name)

    def test_each_function_has_its_arguments_by_their_names(self):
        for module, functions in FUNCTIONS.items():
            for name, arguments in functions.items():
                with self.subTest(name=name):
                    self.takes(getattr(module, name), arguments)

    def test_each_method_is_defined_in_the_class_itself_with_its_arguments(self):
        for name, arguments in METHODS.items():
            with self.subTest(name=name):
                found = vars(stores.Store)[name]
                self.assertTrue(inspect.isfunction(found))
                self.takes(found, ["self", *arguments])

    def test_each_store_has_its_own_field(self):
        for store in (stores.opened(3, 5), stores.risen(3, 5, {}, [])):
            self.assertIs(type(vars(store)["deeds"]), list)

    def test_arguments_by_their_names(self):
        leaf = {0: ("leaf", ((1, "a"),))}
        self.assertEqual(disks.done(blocks={}, log=[], deed=("clear",)), ({}, []))
        self.assertEqual(disks.redone(blocks=leaf, log=[]), leaf)
        self.assertIs(trees.sound(blocks=leaf, width=3), True)
        self.assertEqual(trees.value_in(blocks=leaf, key=1), "a")
        self.assertEqual(trees.listed(blocks=leaf), [(1, "a")])
        self.assertEqual(trees.put_in(blocks=leaf, width=3, key=1, value="b"), {0: ("leaf", ((1, "b"),))})
        self.assertEqual(trees.drop_from(blocks=leaf, width=3, key=1), {0: ("leaf", ())})
        store = stores.risen(width=3, room=5, blocks=leaf, log=[])
        store.put(key=2, value="b")
        store.drop(key=1)
        self.assertEqual(store.settle(many=0), 0)
        self.assertEqual(store.value_at(key=2), "b")
        self.assertEqual(store.between(low=1, high=2), [(2, "b")])
        self.assertEqual(stores.opened(width=3, room=5).pairs(), [])

    def takes(self, function, arguments):
        signature = inspect.signature(function)
        self.assertEqual(list(signature.parameters), arguments)
        for told in signature.parameters.values():
            self.assertEqual(told.kind, inspect.Parameter.POSITIONAL_OR_KEYWORD)
            self.assertIs(told.default, inspect.Parameter.empty)


if __name__ == "__main__":
    unittest.main()
