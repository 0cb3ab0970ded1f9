"""Point 2: what a key and a value is."""

import unittest

from btreelog.blocks import is_key, is_value
from tests.things import no_numbers, no_texts

BOUND = 10 ** 60


class KeyTest(unittest.TestCase):
    def test_ordinary_numbers_are_keys(self):
        for number in (0, 1, -1, 7, -7, 2 ** 63, -(2 ** 64), 10 ** 59, -(10 ** 59)):
            with self.subTest(number=number):
                self.assertIs(is_key(number), True)

    def test_the_numbers_just_within_the_bounds_are_keys(self):
        for number in (BOUND - 1, BOUND - 2, -BOUND + 1, -BOUND + 2):
            with self.subTest(number=number):
                self.assertIs(is_key(number), True)

    def test_the_bounds_and_what_is_beyond_are_no_keys(self):
        for number in (BOUND, BOUND + 1, -BOUND, -BOUND - 1, 10 ** 61, -(10 ** 61), 10 ** 500, -(10 ** 500)):
            with self.subTest(number=number):
                self.assertIs(is_key(number), False)

    def test_true_and_false_are_no_keys(self):
        self.assertIs(is_key(True), False)
        self.assertIs(is_key(False), False)

    def test_what_is_no_number_is_no_key(self):
        for thing in no_numbers():
            with self.subTest(kind=type(thing)):
                self.assertIs(is_key(thing), False)


class ValueTest(unittest.TestCase):
    def test_ordinary_texts_are_values(self):
        for text in ("a", "some words", "0", "True", "  ", "\\'\"{}[]()"):
            with self.subTest(text=text):
                self.assertIs(is_value(text), True)

    def test_a_text_has_at_most_sixty_signs(self):
        for many, answer in ((0, True), (1, True), (59, True), (60, True), (61, False), (62, False), (5000, False)):
            for sign in ("x", " ", "~"):
                with self.subTest(many=many, sign=sign):
                    self.assertIs(is_value(sign * many), answer)

    def test_each_sign_from_the_blank_to_the_tilde(self):
        for code in range(32, 127):
            # Nothing is promised of the percent sign.
            if code != 37:
                for text in around(chr(code)):
                    with self.subTest(code=code, text=text):
                        self.assertIs(is_value(text), True)

    def test_the_signs_outside_at_the_first_a_middle_and_the_last_place(self):
        beyond = [0x80, 0x85, 0xA0, 0xE9, 0xFF, 0x100, 0x660, 0x2028, 0x20AC, 0xD800, 0xFF21, 0x1F600, 0x10FFFF]
        for code in [*range(32), 127, *beyond]:
            for text in around(chr(code)):
                with self.subTest(code=code, text=text):
                    self.assertIs(is_value(text), False)

    def test_what_is_no_text_is_no_value(self):
        for thing in no_texts():
            with self.subTest(kind=type(thing)):
                self.assertIs(is_value(thing), False)


def around(sign):
    return [sign, sign + "abcd", "ab" + sign + "cd", "abcd" + sign, "x" * 59 + sign]


if __name__ == "__main__":
    unittest.main()
