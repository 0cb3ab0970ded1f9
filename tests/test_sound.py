"""Point 5: what a sound tree of a width is; and of this, point 1."""

import copy
import unittest

from btreelog.trees import sound
from tests.shapes import full_shape, half_of, in_order, levels_of, tree, why_unsound
from tests.things import Grumpy, no_numbers, no_texts

WIDTHS = (3, 4, 5, 6, 7, 8, 16, 33, 63, 64)
# Width 4: three levels, each block with room for a pair more and a pair less.
SHAPE = [[3, 3, 3], [3, 3, 3], [3, 3, 3]]
NUMBERS = (11, 3, 7, 1, 20, 2, 9, 4, 30, 5, 8, 6)
FIRST, MIDDLE, LAST = 11, 20, 30
LEAVES = ((FIRST, (3, 7, 1)), (MIDDLE, (2, 9, 4)), (LAST, (5, 8, 6)))


def base():
    return tree(SHAPE, NUMBERS)


def swapped(blocks, number, at, pair):
    """The blocks, in one of which another pair stands at a place."""
    word, pairs = blocks[number]
    row = list(pairs)
    row[at] = pair
    return {**blocks, number: (word, tuple(row))}


class SoundTest(unittest.TestCase):
    def yes(self, blocks, width=4):
        self.assertIsNone(why_unsound(blocks, width))
        self.answer(blocks, width, True)

    def no(self, blocks, width=4):
        self.answer(blocks, width, False)

    def answer(self, blocks, width, answer):
        before = dict(blocks)
        self.assertIs(sound(blocks, width), answer)
        self.assertEqual(list(blocks), list(before))
        for number, block in blocks.items():
            self.assertIs(block, before[number])


class RootTest(SoundTest):
    def test_the_root_alone(self):
        for width in WIDTHS:
            for many in range(width + 1):
                with self.subTest(width=width, many=many):
                    self.yes(tree(many), width)
            self.no(tree(width + 1), width)
            self.no(tree(width + 2), width)

    def test_no_blocks_at_all(self):
        self.no({})

    def test_a_root_that_is_not_there(self):
        for number in (1, -1, 7, 10 ** 30):
            self.no({number: ("leaf", ())})
            self.no({number: ("leaf", ((1, "a"), (2, "b")))})
        blocks = base()
        del blocks[0]
        self.no(blocks)

    def test_a_branch_as_root(self):
        for width in WIDTHS:
            least = half_of(width)
            for many in range(width + 3):
                with self.subTest(width=width, many=many):
                    self.answer(tree([least] * many), width, 2 <= many <= width)
                    self.answer(tree([width] * many), width, 2 <= many <= width)

    def test_a_branch_root_of_none_or_one(self):
        self.no({0: ("branch", ())})
        self.no(tree([3]))
        self.no(tree([[3, 3]]))
        self.no({0: ("branch", ((0, 1),))})

    def test_things_that_are_no_block_as_root(self):
        for thing in [*no_numbers(), *no_texts(), ["leaf", ()], ("leaf", []), ("root", ()), ("leaf",), ("leaf", (), ()),
                      ("leaf", ((1, 2),)), ("leaf", (("1", "a"),)), ("leaf", ((True, "a"),)), (Grumpy(), Grumpy())]:
            with self.subTest(kind=type(thing)):
                self.no({0: thing})
                self.no({**base(), 0: thing})

    def test_keys_of_the_root_alone_that_do_not_rise(self):
        self.no({0: ("leaf", ((1, "a"), (1, "b")))})
        self.no({0: ("leaf", ((2, "a"), (1, "b")))})


class ShapeTest(SoundTest):
    def test_two_and_three_levels(self):
        for width in WIDTHS:
            for levels in (2, 3):
                fans = sorted({half_of(width), (half_of(width) + width) // 2, width})
                # Beyond that the keys would be too many.
                for fan in [fan for fan in fans if fan ** levels <= 40000]:
                    with self.subTest(width=width, levels=levels, fan=fan):
                        blocks = tree(full_shape(levels, width, fan))
                        self.assertEqual(levels_of(blocks), levels)
                        self.answer(blocks, width, True)

    def test_many_levels(self):
        for levels in (4, 5, 8):
            self.yes(tree(full_shape(levels, 3, 2)), 3)
        self.yes(tree(full_shape(6, 4, 3)), 4)

    def test_the_same_blocks_for_other_widths(self):
        blocks = tree(SHAPE)
        for width in range(3, 65):
            self.answer(blocks, width, width in (3, 4, 5, 6))
        blocks = tree([[20, 17], [18, 33]])
        for width in range(3, 65):
            self.no(blocks, width)
        blocks = tree([20, 17, 18, 33])
        for width in range(3, 65):
            self.answer(blocks, width, width in (33, 34))

    def test_too_few_and_too_many_pairs_of_a_leaf(self):
        for width in WIDTHS:
            least = half_of(width)
            for at in range(3):
                for many in (least - 1, least, width, width + 1):
                    shape = [least, least, least]
                    shape[at] = many
                    with self.subTest(width=width, at=at, many=many):
                        self.answer(tree(shape), width, least <= many <= width)

    def test_too_few_and_too_many_pairs_of_a_leaf_two_levels_below(self):
        for width in (3, 4, 5, 6, 64):
            least = half_of(width)
            for branch in range(3):
                for at in (0, least // 2, least - 1):
                    for many in (least - 1, least, width, width + 1):
                        shape = [[least] * least for _ in range(3)]
                        shape[branch][at] = many
                        with self.subTest(width=width, branch=branch, at=at, many=many):
                            self.answer(tree(shape), width, least <= many <= width)

    def test_too_few_and_too_many_pairs_of_a_branch(self):
        for width in WIDTHS:
            least = half_of(width)
            for at in range(3):
                for many in (1, least - 1, least, width, width + 1):
                    shape = [[least] * least for _ in range(3)]
                    shape[at] = [least] * many
                    with self.subTest(width=width, at=at, many=many):
                        self.answer(tree(shape), width, least <= many <= width)

    def test_a_leaf_without_pairs_below_the_root(self):
        for at in range(3):
            shape = [2, 2, 2]
            shape[at] = 0
            self.no(tree(shape), 3)

    def test_leaves_of_different_depth(self):
        for at in range(3):
            shape = [[3, 3], [3, 3], [3, 3]]
            shape[at] = 3
            self.no(tree(shape))
            shape = [3, 3, 3]
            shape[at] = [3, 3]
            self.no(tree(shape))
            shape = [[[3, 3], [3, 3]], [[3, 3], [3, 3]], [[3, 3], [3, 3]]]
            shape[at] = [3, 3]
            self.no(tree(shape))
            shape[at] = [[3, 3], 3]
            self.no(tree(shape))
            shape[at] = [[3, 3], [3, [3, 3]]]
            self.no(tree(shape))

    def test_a_branch_beside_leaves_that_names_no_blocks_of_its_own(self):
        for at in range(3):
            for names in ((97, 98, 99), (1, 2, 3), (at + 1, 98, 99), (0, 98, 99)):
                blocks = tree([3, 3, 3])
                word, pairs = blocks[at + 1]
                blocks[at + 1] = ("branch", tuple((key, number) for (key, value), number in zip(pairs, names)))
                self.no(blocks)

    def test_what_a_width_somewhat_beyond_the_bounds_is_told(self):
        for width in (-3, -1, 0, 1, 2, 65, 100):
            for shape in (0, 1, 2, 3, [1, 1], [1, 2], [[1, 1], [1, 1]], [33, 65], SHAPE):
                self.assertIs(type(sound(tree(shape), width)), bool)
        self.yes(tree(65), 65)
        self.yes(tree([33, 65]), 65)


class NamesTest(SoundTest):
    def test_the_base_is_sound(self):
        self.yes(base())
        self.assertEqual(len(base()), 13)
        for number, below in LEAVES:
            self.assertEqual(tuple(name for key, name in base()[number][1]), below)

    def test_any_numbers_of_blocks(self):
        for numbers in (range(12, 0, -1), range(100, 1300, 100), [10 ** k for k in range(30, 54, 2)]):
            self.yes(tree(SHAPE, numbers))

    def test_any_order_of_the_dict(self):
        blocks = base()
        self.yes({number: blocks[number] for number in sorted(blocks)})
        self.yes({number: blocks[number] for number in sorted(blocks, reverse=True)})

    def test_a_number_named_that_is_not_there(self):
        for branch, below in [(0, (FIRST, MIDDLE, LAST)), *LEAVES]:
            for at, number in enumerate(below):
                blocks = base()
                key = blocks[branch][1][at][0]
                with self.subTest(branch=branch, at=at):
                    self.no({other: block for other, block in blocks.items() if other != number})
                    self.no(swapped(blocks, branch, at, (key, 99)))
                    gone = swapped(blocks, branch, at, (key, 99))
                    del gone[number]
                    self.no(gone)

    def test_a_block_named_twice_by_one_branch(self):
        for branch, below in [(0, (FIRST, MIDDLE, LAST)), *LEAVES]:
            for at in range(3):
                for other in range(3):
                    if at != other:
                        blocks = base()
                        key = blocks[branch][1][at][0]
                        self.no(swapped(blocks, branch, at, (key, below[other])))

    def test_a_block_named_twice_by_two_pairs_more(self):
        # All blocks are named, and a further pair names one of them again.
        for branch, below in LEAVES:
            for at in range(3):
                blocks = base()
                word, pairs = blocks[branch]
                self.no({**blocks, branch: (word, pairs + ((pairs[-1][0] + 1, below[at]),))})

    def test_a_block_named_twice_by_two_branches(self):
        for one, mine in LEAVES:
            for other, theirs in LEAVES:
                if one != other:
                    for at in range(3):
                        blocks = base()
                        key = blocks[one][1][at][0]
                        self.no(swapped(blocks, one, at, (key, theirs[at])))
                        gone = swapped(blocks, one, at, (key, theirs[at]))
                        del gone[mine[at]]
                        self.no(gone)

    def test_a_block_named_by_none(self):
        for number in (-1, 12, 99, 10 ** 40):
            self.no({**base(), number: ("leaf", ((500, "x"), (501, "y"), (502, "z")))})
            self.no({**tree(0), number: ("leaf", ((500, "x"), (501, "y"), (502, "z")))})
            self.no({**tree([2, 2]), number: ("leaf", ((500, "x"), (501, "y"), (502, "z")))})

    def test_a_tree_beside_the_root(self):
        blocks = tree([3, 3], range(50, 60))
        blocks[40] = blocks.pop(0)
        self.no({**base(), **blocks})
        self.no({**tree(2), **blocks})

    def test_a_block_that_is_none_beside_a_tree(self):
        for thing in [*no_numbers(), *no_texts()]:
            self.no({**tree(2), 5: thing})
            self.no({**base(), 99: thing})

    def test_the_root_named(self):
        for branch, below in [(0, (FIRST, MIDDLE, LAST)), *LEAVES]:
            for at in range(3):
                blocks = base()
                key = blocks[branch][1][at][0]
                self.no(swapped(blocks, branch, at, (key, 0)))
                gone = swapped(blocks, branch, at, (key, 0))
                del gone[below[at]]
                self.no(gone)
        self.no({0: ("branch", ((1, 0), (2, 0)))})

    def test_a_circle_of_branches(self):
        for branch, below in LEAVES:
            for at in range(3):
                for target in (branch, FIRST, MIDDLE, LAST):
                    blocks = base()
                    key = blocks[branch][1][at][0]
                    self.no(swapped(blocks, branch, at, (key, target)))
                    gone = swapped(blocks, branch, at, (key, target))
                    del gone[below[at]]
                    self.no(gone)
        self.no({0: ("branch", ((1, 1), (5, 2))), 1: ("branch", ((1, 1), (2, 2))), 2: ("branch", ((5, 1), (6, 2)))}, 3)
        self.no({0: ("branch", ((1, 1), (5, 2))), 1: ("branch", ((1, 2), (2, 1))), 2: ("branch", ((5, 2), (6, 1)))}, 3)

    def test_a_circle_beside_the_tree(self):
        circle = {
            40: ("branch", ((1, 41), (5, 42))), 41: ("branch", ((1, 40), (3, 43))),
            42: ("leaf", ((5, "a"), (6, "b"))), 43: ("leaf", ((3, "a"), (4, "b"))),
        }
        self.no({**tree(2), **circle}, 3)
        self.no({**tree([2, 2]), **circle}, 3)


class KeysTest(SoundTest):
    def test_a_least_key_in_a_branch_that_is_not_that_of_the_block_below(self):
        for branch, below in [(0, (FIRST, MIDDLE, LAST)), *LEAVES]:
            for at in range(3):
                blocks = base()
                key, number = blocks[branch][1][at]
                for off in (-1, 1, -9, 9):
                    with self.subTest(branch=branch, at=at, off=off):
                        self.no(swapped(blocks, branch, at, (key + off, number)))

    def test_a_least_key_of_a_leaf_that_is_not_that_in_the_branch(self):
        for branch, below in LEAVES:
            for number in below:
                key, value = base()[number][1][0]
                for off in (-1, 1):
                    with self.subTest(number=number, off=off):
                        self.no(swapped(base(), number, 0, (key + off, value)))

    def test_a_new_least_key_all_the_way_up(self):
        # The first leaf, the first branch and the root agree, or all but one of them.
        for key in (-1, 1):
            leaf = swapped(base(), 3, 0, (key, "v0"))
            branch = swapped(leaf, FIRST, 0, (key, 3))
            root = swapped(branch, 0, 0, (key, FIRST))
            self.no(leaf)
            self.no(branch)
            self.no(swapped(leaf, 0, 0, (key, FIRST)))
            self.yes(root)

    def test_keys_that_fall_or_stand_twice_from_one_leaf_to_the_next(self):
        row = [number for branch, below in LEAVES for number in below]
        for number, follower in zip(row, row[1:]):
            least = base()[follower][1][0][0]
            for key, answer in ((least - 1, True), (least, False), (least + 1, False), (10 ** 59, False)):
                with self.subTest(number=number, key=key):
                    self.answer(swapped(base(), number, 2, (key, "x")), 4, answer)

    def test_keys_that_fall_behind_some_leaves(self):
        # The last key of the first leaf is above the keys of the leaves that follow.
        self.no(swapped(base(), 3, 2, (45, "x")))
        self.no(swapped(base(), 3, 2, (1000, "x")))
        self.yes(swapped(base(), 6, 2, (1000, "x")))

    def test_keys_that_do_not_rise_within_a_leaf(self):
        for branch, below in LEAVES:
            for number in below:
                least = base()[number][1][0][0]
                for key in (least, least - 5, least + 20, least + 25):
                    self.no(swapped(base(), number, 1, (key, "x")))

    def test_blocks_in_the_wrong_order(self):
        for branch, below in LEAVES:
            for one, other in ((0, 1), (1, 2), (0, 2)):
                # The names change places, then the blocks below them, each with the keys that it had.
                pairs = list(base()[branch][1])
                keys = [key for key, number in pairs]
                pairs[one], pairs[other] = (keys[one], below[other]), (keys[other], below[one])
                self.no({**base(), branch: ("branch", tuple(pairs))})
                pairs = list(base()[branch][1])
                pairs[one], pairs[other] = pairs[other], pairs[one]
                self.no({**base(), branch: ("branch", tuple(pairs))})

    def test_the_keys_within_and_beyond_their_bounds(self):
        bound = 10 ** 60
        self.yes({0: ("leaf", ((1 - bound, "a"), (bound - 1, "b")))})
        self.no({0: ("leaf", ((-bound, "a"), (bound - 1, "b")))})
        self.no({0: ("leaf", ((1 - bound, "a"), (bound, "b")))})

    def test_all_keys_are_listed(self):
        self.assertEqual(in_order(base()), [(10 * k, f"v{k}") for k in range(27)])


class JunkTest(SoundTest):
    def test_things_that_are_no_block_below_the_root(self):
        things = [*no_numbers(), *no_texts(), ["leaf", ()], ("leaf", []), ("leaf", ()), ("branch", ()), Grumpy(),
                  (Grumpy(), Grumpy()), ("leaf", (Grumpy(), Grumpy(), Grumpy()))]
        for number in base():
            if number != 0:
                for thing in things:
                    with self.subTest(number=number, kind=type(thing)):
                        self.no({**base(), number: thing})

    def test_lists_in_place_of_tuples(self):
        for number, (word, pairs) in base().items():
            self.no({**base(), number: [word, pairs]})
            self.no({**base(), number: (word, list(pairs))})
            self.no({**base(), number: (word, tuple(list(pair) for pair in pairs))})

    def test_the_other_word(self):
        for number, (word, pairs) in base().items():
            other = "leaf" if word == "branch" else "branch"
            self.no({**base(), number: (other, pairs)})
            self.no({**base(), number: ("root", pairs)})

    def test_wrong_keys_values_and_numbers(self):
        for number, (word, pairs) in base().items():
            for at in range(3):
                key, held = pairs[at]
                for wrong in (None, "a", str(key), (key,), Grumpy(), 10 ** 60, -(10 ** 60)):
                    self.no(swapped(base(), number, at, (wrong, held)))
                values, names = (None, 5, "x" * 61, "\n", b"v"), (None, "1", 0, -1, True, (held,), 10 ** 70)
                for wrong in (*(values if word == "leaf" else names), Grumpy()):
                    self.no(swapped(base(), number, at, (key, wrong)))
                self.no(swapped(base(), number, at, (key,)))
                self.no(swapped(base(), number, at, (key, held, held)))

    def test_true_named_for_the_block_of_number_one(self):
        blocks = tree([3, 3], (1, 2))
        self.yes(blocks)
        self.no({**blocks, 0: ("branch", ((0, True), (30, 2)))})

    def test_what_is_handed_in_stays(self):
        for blocks in (base(), {**base(), 3: ["leaf", [1, 2]]}, {0: {"leaf": []}}):
            before = copy.deepcopy(blocks)
            sound(blocks, 4)
            self.assertEqual(blocks, before)


if __name__ == "__main__":
    unittest.main()
