"""Point 14, as far as it speaks of the classes of refusals."""

import unittest

from btreelog import errors

NAMES = ("BadWidth", "BadRoom", "BadKey", "BadValue", "NotThere", "Broken")


class RefusalsTest(unittest.TestCase):
    def test_any_refusal_stands_right_under_value_error(self):
        self.assertEqual(errors.StoreError.__bases__, (ValueError,))

    def test_each_refusal_stands_right_under_store_error(self):
        for name in NAMES:
            with self.subTest(name=name):
                self.assertEqual(getattr(errors, name).__bases__, (errors.StoreError,))

    def test_each_refusal_is_a_class_of_its_own(self):
        kinds = {getattr(errors, name) for name in NAMES}
        self.assertEqual(len(kinds), len(NAMES))
        for kind in kinds:
            for other in kinds - {kind}:
                self.assertFalse(issubclass(kind, other))

    def test_a_raised_refusal_is_caught_by_its_name_and_by_those_above(self):
        for name in NAMES:
            kind = getattr(errors, name)
            for caught in (kind, errors.StoreError, ValueError):
                with self.subTest(name=name, caught=caught):
                    with self.assertRaises(caught) as told:
                        raise kind("why")
                    self.assertIs(type(told.exception), kind)

    def test_a_raised_refusal_is_not_caught_by_another_name(self):
        for name in NAMES:
            for other in NAMES:
                if other != name:
                    self.assertNotIsInstance(getattr(errors, name)("why"), getattr(errors, other))

    def test_a_refusal_without_words(self):
        for name in NAMES + ("StoreError",):
            self.assertIsInstance(getattr(errors, name)(), errors.StoreError)


if __name__ == "__main__":
    unittest.main()
