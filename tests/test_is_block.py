"""Point 3: what a block is; and of this, point 1."""

import copy
import unittest

from btreelog.blocks import is_block
from tests.things import Grumpy, no_numbers, no_texts

LEAF = ((-3, "a"), (0, ""), (4, "~ ~"), (9, "d"), (10, "e"))
BRANCH = ((-3, 1), (0, 7), (4, 2), (9, 10 ** 80), (10, 3))
ROWS = {"leaf": LEAF, "branch": BRANCH}
SPOTS = (0, 2, 4)
EACH_SPOT = [(word, pairs, at) for word, pairs in ROWS.items() for at in SPOTS]


def changed(pairs, at, pair):
    return pairs[:at] + (pair,) + pairs[at + 1:]


class BlockTest(unittest.TestCase):
    def yes(self, thing, least=3, most=6):
        self.assertIs(is_block(thing, least, most), True)

    def no(self, thing, least=3, most=6):
        self.assertIs(is_block(thing, least, most), False)

    def test_leaves_and_branches(self):
        for word, pairs in ROWS.items():
            self.yes((word, pairs))

    def test_the_number_of_pairs(self):
        for word, pairs in ROWS.items():
            for least in range(-1, 8):
                for most in range(-1, 8):
                    for many in range(6):
                        with self.subTest(word=word, least=least, most=most, many=many):
                            answer = is_block((word, pairs[:many]), least, most)
                            self.assertIs(answer, least <= many <= most)

    def test_no_pairs(self):
        for word in ROWS:
            self.yes((word, ()), 0, 3)
            self.yes((word, ()), 0, 0)
            self.no((word, ()), 1, 3)

    def test_the_widest_blocks(self):
        leaf = tuple([(k, "v") for k in range(65)])
        branch = tuple([(k, k + 1) for k in range(65)])
        for word, pairs in (("leaf", leaf), ("branch", branch)):
            self.yes((word, pairs[:64]), 32, 64)
            self.yes((word, pairs[:32]), 32, 64)
            self.no((word, pairs), 32, 64)
            self.no((word, pairs[:31]), 32, 64)

    def test_lists_in_place_of_tuples(self):
        for word, pairs in ROWS.items():
            self.no([word, pairs])
            self.no((word, list(pairs)))
            self.no([word, list(pairs)])
            self.no((word, [list(pair) for pair in pairs]))
            self.no((word, []), 0, 3)
        for word, pairs, at in EACH_SPOT:
            self.no((word, changed(pairs, at, list(pairs[at]))))

    def test_another_word(self):
        words = ("", "Leaf", "LEAF", "leaf ", " leaf", "leafs", "lea", "leaf\n", "branches", "root", "kept", "block")
        for word in words:
            for pairs in (LEAF, BRANCH, ()):
                with self.subTest(word=word):
                    self.no((word, pairs), 0, 6)

    def test_what_is_no_word(self):
        for word in [*no_texts(), b"leaf", b"branch", ("leaf",), ["leaf"], ("leaf", "branch")]:
            for pairs in (LEAF, BRANCH, ()):
                self.no((word, pairs), 0, 6)

    def test_the_pairs_of_the_other_word(self):
        self.no(("leaf", BRANCH))
        self.no(("branch", LEAF))

    def test_a_block_of_one_or_three(self):
        for word, pairs in ROWS.items():
            self.no((), 0, 6)
            self.no((word,), 0, 6)
            self.no((pairs,), 0, 6)
            self.no((word, pairs, ()), 0, 6)
            self.no((word, pairs, None))
            self.no((word, pairs, pairs))
            self.no((pairs, word))

    def test_what_is_no_row_of_pairs(self):
        things = [*no_numbers(), "", "abc", {1: "a", 2: "b", 3: "c"}, range(4), 0, 3, True, False]
        for word in ROWS:
            for thing in things:
                # No pairs at all are a row.
                if type(thing) is not tuple or thing:
                    with self.subTest(word=word, kind=type(thing)):
                        self.no((word, thing), 0, 6)

    def test_pairs_of_none_one_or_three(self):
        for word, pairs, at in EACH_SPOT:
            key, held = pairs[at]
            for pair in ((), (key,), (key, held, held), (key, held, None), (held,)):
                self.no((word, changed(pairs, at, pair)))

    def test_things_that_are_no_pairs(self):
        for word, pairs, at in EACH_SPOT:
            for thing in [*no_numbers(), 1, True, "ab", [1, "a"], {1: 2, 3: 4}]:
                self.no((word, changed(pairs, at, thing)))

    def test_keys_that_stand_twice(self):
        for word, pairs in ROWS.items():
            for at in range(1, 5):
                with self.subTest(word=word, at=at):
                    self.no((word, changed(pairs, at, (pairs[at - 1][0], pairs[at][1]))))
                    self.no((word, pairs[:at] + pairs[at - 1:]))

    def test_keys_that_fall(self):
        for word, pairs in ROWS.items():
            self.no((word, pairs[::-1]))
            for at in range(1, 5):
                with self.subTest(word=word, at=at):
                    self.no((word, changed(pairs, at, (pairs[at - 1][0] - 1, pairs[at][1]))))
                    self.no((word, pairs[:at - 1] + (pairs[at], pairs[at - 1]) + pairs[at + 1:]))

    def test_keys_that_rise_by_one(self):
        self.yes(("leaf", ((-1, "a"), (0, "a"), (1, "a"))))
        self.yes(("branch", ((-1, 5), (0, 5), (1, 5))))

    def test_wrong_keys(self):
        for word, pairs, at in EACH_SPOT:
            for key in [*no_numbers(), 10 ** 60, -(10 ** 60), 10 ** 70, -(10 ** 70), str(pairs[at][0])]:
                self.no((word, changed(pairs, at, (key, pairs[at][1]))))

    def test_true_and_false_are_no_keys_of_pairs(self):
        # Where they would rise if they counted as 1 and 0.
        for word, held in (("leaf", "a"), ("branch", 1)):
            self.no((word, ((False, held), (5, held), (6, held))))
            self.no((word, ((-5, held), (True, held), (6, held))))
            self.no((word, ((-5, held), (-4, held), (True, held))))
            self.no((word, ((True, held),)), 1, 6)

    def test_the_outermost_keys(self):
        for word, held in (("leaf", "a"), ("branch", 1)):
            self.yes((word, ((1 - 10 ** 60, held), (0, held), (10 ** 60 - 1, held))))
            self.no((word, ((-(10 ** 60), held), (0, held), (1, held))))
            self.no((word, ((0, held), (1, held), (10 ** 60, held))))

    def test_wrong_values_in_a_leaf(self):
        wrong = [*no_texts(), "a\n", "\t", "\x7f", "\xe9", "x" * 61]
        for at in SPOTS:
            for value in wrong:
                with self.subTest(at=at, kind=type(value)):
                    self.no(("leaf", changed(LEAF, at, (LEAF[at][0], value))))

    def test_the_longest_value_in_a_leaf(self):
        for at in SPOTS:
            self.yes(("leaf", changed(LEAF, at, (LEAF[at][0], "x" * 60))))

    def test_wrong_numbers_in_a_branch(self):
        wrong = [*no_numbers(), 0, -1, -7, -(10 ** 70), True, False, "a", "7"]
        for at in SPOTS:
            for number in wrong:
                with self.subTest(at=at, kind=type(number)):
                    self.no(("branch", changed(BRANCH, at, (BRANCH[at][0], number))))

    def test_the_least_number_and_large_ones_in_a_branch(self):
        for at in SPOTS:
            for number in (1, 2, 20000, 10 ** 60, 10 ** 100):
                self.yes(("branch", changed(BRANCH, at, (BRANCH[at][0], number))))

    def test_things_of_any_other_kind(self):
        for thing in [*no_numbers(), *no_texts(), "leaf", "le", "branch", {"leaf": LEAF}, {0: "leaf", 1: LEAF}, LEAF]:
            with self.subTest(kind=type(thing)):
                self.no(thing, 0, 6)

    def test_grumpy_objects_at_every_level(self):
        self.no(Grumpy())
        self.no((Grumpy(), Grumpy()))
        for word, pairs in ROWS.items():
            self.no((Grumpy(), pairs))
            self.no((word, Grumpy()))
            self.no((word, (Grumpy(), Grumpy(), Grumpy())))
            self.no((word, ((Grumpy(), Grumpy()),) + pairs))

    def test_what_is_handed_in_stays_as_it_was(self):
        for word, pairs in ROWS.items():
            for thing in ((word, pairs), [word, [list(pair) for pair in pairs]], (word, list(pairs)), {word: [pairs]}):
                before = copy.deepcopy(thing)
                is_block(thing, 3, 6)
                self.assertEqual(thing, before)


if __name__ == "__main__":
    unittest.main()
