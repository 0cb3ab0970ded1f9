"""Point 6: how a key is looked for in a tree, and what a tree lists; and of this, point 1."""

import unittest

from btreelog.trees import listed, value_in
from tests.shapes import full_shape, tree

SHAPES = (0, 1, 3, [2, 3], [3, 2, 3], [[2, 3], [3, 2, 2], [2, 2]], [[[2, 2], [2, 3]], [[3, 3, 3], [2, 2]]])
BOUND = 10 ** 60


def many_in(shape):
    return shape if isinstance(shape, int) else sum(many_in(part) for part in shape)


class ValueTest(unittest.TestCase):
    def test_each_key_and_its_neighbours(self):
        for shape in SHAPES:
            blocks = tree(shape)
            for k in range(-1, many_in(shape) + 1):
                with self.subTest(shape=shape, k=k):
                    value = f"v{k}" if 0 <= k < many_in(shape) else None
                    self.assertEqual(value_in(blocks, 10 * k), value)
                    self.assertIsNone(value_in(blocks, 10 * k - 1))
                    self.assertIsNone(value_in(blocks, 10 * k + 1))

    def test_keys_far_off(self):
        for shape in SHAPES:
            for key in (1 - BOUND, BOUND - 1, -BOUND, BOUND, 10 ** 70, -(10 ** 70)):
                self.assertIsNone(value_in(tree(shape), key))

    def test_keys_by_their_bounds(self):
        blocks = {
            0: ("branch", ((1 - BOUND, 5), (7, 2))),
            5: ("leaf", ((1 - BOUND, "low"), (0, ""))), 2: ("leaf", ((7, "x" * 60), (BOUND - 1, "high"))),
        }
        for key, value in ((1 - BOUND, "low"), (0, ""), (7, "x" * 60), (BOUND - 1, "high"), (1, None), (8, None)):
            self.assertEqual(value_in(blocks, key), value)

    def test_the_numbers_of_the_blocks_do_not_matter(self):
        for numbers in (range(60, 0, -1), [10 ** 30 + 7 * k for k in range(60)]):
            for shape in SHAPES:
                blocks = tree(shape, numbers)
                for k in range(many_in(shape)):
                    self.assertEqual(value_in(blocks, 10 * k), f"v{k}")

    def test_wide_blocks(self):
        for width in (33, 64):
            blocks = tree(full_shape(2, width, width))
            for k in range(0, width * width, 5):
                self.assertEqual(value_in(blocks, 10 * k), f"v{k}")
                self.assertIsNone(value_in(blocks, 10 * k + 5))

    def test_the_tree_stays_as_it_was(self):
        for shape in SHAPES:
            blocks = tree(shape)
            value_in(blocks, 10)
            value_in(blocks, 11)
            self.assertEqual(blocks, tree(shape))


class ListedTest(unittest.TestCase):
    def test_all_pairs_rising(self):
        for shape in SHAPES:
            for numbers in (None, range(60, 0, -1), range(5, 500, 7)):
                with self.subTest(shape=shape):
                    told = listed(tree(shape, numbers))
                    self.assertIs(type(told), list)
                    self.assertEqual(told, [(10 * k, f"v{k}") for k in range(many_in(shape))])
                    for pair in told:
                        self.assertIs(type(pair), tuple)

    def test_keys_by_their_bounds(self):
        pairs = ((1 - BOUND, "low"), (0, ""), (BOUND - 1, "high"))
        self.assertEqual(listed({0: ("leaf", pairs)}), list(pairs))

    def test_many_levels(self):
        for levels in (4, 7):
            self.assertEqual(len(listed(tree(full_shape(levels, 3, 2)))), 2 ** levels)

    def test_what_is_told_is_the_askers_own(self):
        for shape in SHAPES:
            blocks = tree(shape)
            told = listed(blocks)
            told.append("mine")
            told[0] = "mine"
            self.assertEqual(blocks, tree(shape))
            self.assertEqual(listed(blocks), [(10 * k, f"v{k}") for k in range(many_in(shape))])
            kept = listed(blocks)
            blocks.clear()
            self.assertEqual(kept, [(10 * k, f"v{k}") for k in range(many_in(shape))])


if __name__ == "__main__":
    unittest.main()
