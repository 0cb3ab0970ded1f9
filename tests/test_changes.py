"""Point 6: how blocks change where a key comes or goes; and of this, point 1."""

import unittest

from btreelog.trees import drop_from, put_in
from tests.shapes import behind, full_shape, in_order, least_free, levels_of, orders, tree, why_unsound

WIDTHS = ((3, 200), (4, 200), (5, 250), (6, 300), (33, 500), (64, 300))
BOUND = 10 ** 60


class ChangesTest(unittest.TestCase):
    def put(self, blocks, width, key, value):
        """The blocks behind a put; each thing that point 6 says of it is looked at."""
        then = {**dict(in_order(blocks)), key: value}
        return self.looked_at(blocks, width, then, lambda handed: put_in(handed, width, key, value))

    def drop(self, blocks, width, key):
        then = dict(in_order(blocks))
        del then[key]
        return self.looked_at(blocks, width, then, lambda handed: drop_from(handed, width, key))

    def looked_at(self, blocks, width, then, request):
        before = dict(blocks)
        told = request(blocks)
        self.assertIs(type(told), dict)
        self.assertEqual(list(blocks.items()), list(before.items()))
        new = sorted(number for number in told if number not in blocks)
        gone = [number for number, block in told.items() if block is None]
        self.assertEqual(new, least_free(blocks, len(new)))
        self.assertFalse(new and gone)
        for number, block in told.items():
            self.assertNotEqual(block, blocks.get(number))
        after = behind(blocks, told)
        self.assertIsNone(why_unsound(after, width))
        self.assertEqual(in_order(after), sorted(then.items()))
        # What is told is the asker's own.
        told.clear()
        self.assertEqual(list(blocks.items()), list(before.items()))
        return after


class OneRequestTest(ChangesTest):
    def told(self, blocks, width, key, value="x"):
        self.put(blocks, width, key, value)
        return put_in(blocks, width, key, value)

    def test_a_first_key(self):
        for width in (3, 4, 64):
            self.assertEqual(self.told(tree(0), width, 5), {0: ("leaf", ((5, "x"),))})

    def test_a_key_that_has_its_place_in_the_root_alone(self):
        self.assertEqual(self.told(tree(2), 3, 5), {0: ("leaf", ((0, "v0"), (5, "x"), (10, "v1")))})
        self.assertEqual(self.told(tree(2), 3, -5), {0: ("leaf", ((-5, "x"), (0, "v0"), (10, "v1")))})
        self.assertEqual(self.told(tree(2), 3, 15), {0: ("leaf", ((0, "v0"), (10, "v1"), (15, "x")))})

    def test_another_value_changes_the_leaf_alone(self):
        for shape in (2, 3, [3, 2], [[2, 3], [2, 2, 3]]):
            blocks = tree(shape)
            for key, value in in_order(blocks):
                told = self.told(blocks, 3, key)
                self.assertEqual(len(told), 1)
                (block,) = told.values()
                self.assertEqual(block[0], "leaf")
                self.assertIn((key, "x"), block[1])

    def test_the_value_that_a_key_has_changes_nothing(self):
        for shape in (1, 3, [3, 2], [[2, 3], [2, 2, 3]]):
            for key, value in in_order(tree(shape)):
                self.assertEqual(self.told(tree(shape), 3, key, value), {})

    def test_an_empty_text_is_a_value_like_any(self):
        blocks = self.put(tree([2, 2]), 3, 10, "")
        self.assertEqual(put_in(blocks, 3, 10, ""), {})
        self.assertEqual(len(self.told(blocks, 3, 10, "v1")), 1)
        self.drop(blocks, 3, 10)

    def test_a_key_where_its_leaf_has_room_changes_the_leaf_alone(self):
        blocks = tree([[3, 2], [2, 3]])
        for key in (35, 45, 55, 65):
            told = self.told(blocks, 3, key)
            self.assertEqual(len(told), 1)

    def test_a_new_least_key_changes_the_branches_above(self):
        told = self.told(tree([[2, 3], [3, 2]]), 3, -1)
        self.assertEqual(sorted(told), [0, 1, 2])
        self.assertEqual(told[0], ("branch", ((-1, 1), (50, 4))))

    def test_a_full_root_becomes_a_branch_above_two_new_blocks(self):
        for width in (3, 4, 5, 64):
            for key in (-1, 5, 10 * width):
                self.assertEqual(sorted(self.told(tree(width), width, key)), [0, 1, 2])
            blocks = tree([width] * width)
            for key in (-1, 5, 10 * width * width):
                self.assertEqual(len([number for number in self.told(blocks, width, key) if number not in blocks]), 3)

    def test_new_numbers_where_numbers_below_are_free(self):
        blocks = tree([[3, 3, 3], [3, 3, 3], [3, 3, 3]], (12, 1, 5, 2, 40, 7, 8, 3, 10 ** 30, 10, 4, 13))
        for key in (-5, 15, 85, 125, 265, 1000):
            told = self.told(blocks, 3, key)
            self.assertEqual(sorted(number for number in told if number not in blocks), [6, 9, 11, 14])

    def test_a_drop_that_leaves_pairs_enough_changes_the_leaf_alone(self):
        blocks = tree([[3, 3], [3, 3]])
        for key in (10, 20, 40, 50, 70, 80, 100, 110):
            self.assertEqual(len(drop_from(blocks, 3, key)), 1)
            self.drop(blocks, 3, key)

    def test_a_drop_of_a_least_key_changes_the_branches_above(self):
        blocks = tree([[3, 3], [3, 3]])
        self.assertEqual(sorted(drop_from(blocks, 3, 0)), [0, 1, 2])
        self.assertEqual(sorted(drop_from(blocks, 3, 30)), [1, 3])
        self.assertEqual(sorted(drop_from(blocks, 3, 60)), [0, 4, 5])

    def test_the_last_key_leaves_an_empty_root(self):
        for width in (3, 4, 64):
            self.assertEqual(drop_from(tree(1), width, 0), {0: ("leaf", ())})
            self.drop(tree(1), width, 0)

    def test_a_root_above_one_block_becomes_that_block(self):
        for key in (0, 10, 20, 30):
            told = drop_from(tree([2, 2]), 3, key)
            self.assertEqual(sorted(told), [0, 1, 2])
            self.assertEqual((told[1], told[2]), (None, None))
            self.assertEqual(self.drop(tree([2, 2]), 3, key), {0: told[0]})
        blocks = tree([[2, 2], [2, 2]])
        for key in range(0, 80, 10):
            after = self.drop(blocks, 3, key)
            self.assertEqual(levels_of(after), 2)

    def test_keys_by_their_bounds(self):
        blocks = tree(0)
        for key in (1 - BOUND, BOUND - 1, 0, BOUND - 2, 2 - BOUND, 10 ** 59, -(10 ** 59)):
            blocks = self.put(blocks, 3, key, "~" * 60)
        for key in (0, BOUND - 1, 1 - BOUND):
            blocks = self.drop(blocks, 3, key)

    def test_every_request_of_some_trees(self):
        shapes = {
            3: ([[2, 2], [2, 2]], [[3, 3, 3], [3, 3, 3], [3, 3, 3]], [[2, 3], [3, 2], [2, 2, 2]], full_shape(4, 3, 2)),
            4: ([[2, 2], [4, 4]], [[4] * 4] * 4, [[4, 2, 3], [2, 2]]),
            5: ([[3] * 3, [5] * 5], [[3] * 3] * 2, [[5] * 5] * 5),
        }
        for width, rows in shapes.items():
            for shape in rows:
                blocks = tree(shape, range(3, 1000, 2))
                self.assertIsNone(why_unsound(blocks, width))
                for key, value in in_order(blocks):
                    self.drop(blocks, width, key)
                    self.put(blocks, width, key + 5, "x")
                    self.put(blocks, width, key - 5, "x")


class RowsTest(ChangesTest):
    def test_rows_of_puts_and_of_drops(self):
        for width, many in WIDTHS:
            coming = orders(many)
            for name, row in coming.items():
                with self.subTest(width=width, order=name):
                    blocks = tree(0)
                    for k in row:
                        blocks = self.put(blocks, width, 3 * k - many, f"v{k}")
                    self.assertGreaterEqual(levels_of(blocks), 4 if width < 7 else 2)
                    self.assertEqual(set(blocks), set(range(len(blocks))))
                    # They go in another order than that in which they came.
                    going = {"rising": "mixed", "falling": "inward", "mixed": "rising", "inward": "falling"}
                    for k in coming[going.get(name, "outward")]:
                        blocks = self.drop(blocks, width, 3 * k - many)
                    self.assertEqual(blocks, {0: ("leaf", ())})

    def test_puts_and_drops_in_turn(self):
        for width in (3, 4, 5, 6, 33):
            many = 200
            row = orders(many)["mixed"]
            blocks = tree(0)
            for at, k in enumerate(row):
                blocks = self.put(blocks, width, k, "v")
                if at % 3 == 2:
                    blocks = self.drop(blocks, width, row[at // 2])
                    if at % 2:
                        blocks = self.put(blocks, width, row[at // 2], "again")
                if at % 5 == 4:
                    blocks = self.put(blocks, width, k, f"w{at}")

    def test_free_numbers_below_are_taken_first(self):
        for width in (3, 4, 6):
            blocks = tree(full_shape(4, width, (width + 1) // 2 + 1), range(2, 10000, 3))
            keys = [key for key, value in in_order(blocks)]
            for key in keys[::7]:
                blocks = self.put(blocks, width, key + 1, "x")
                blocks = self.put(blocks, width, key + 2, "x")
            for key in keys[::2]:
                blocks = self.drop(blocks, width, key)
            for key in keys[::6]:
                blocks = self.put(blocks, width, key, "x")

    def test_trees_of_many_levels_that_shrink_from_each_end(self):
        for width, levels in ((3, 7), (4, 6)):
            for turn in (False, True):
                blocks = tree(full_shape(levels, width, 2))
                keys = [key for key, value in in_order(blocks)]
                for key in reversed(keys) if turn else keys:
                    blocks = self.drop(blocks, width, key)
                self.assertEqual(blocks, {0: ("leaf", ())})

    def test_widths_somewhat_beyond_the_bounds_raise_no_error(self):
        for width in (1, 2, 65, 80):
            blocks = {0: ("leaf", ())}
            for k in orders(300)["mixed"] if width > 1 else range(2):
                blocks = behind(blocks, put_in(blocks, width, k, "v"))
            for k in orders(300)["inward"] if width > 1 else ():
                blocks = behind(blocks, drop_from(blocks, width, k))


if __name__ == "__main__":
    unittest.main()
