"""Point 14: what is refused, by which class, what is looked at first, and that no deed is done; Broken of point 9."""

import unittest

from btreelog.errors import BadKey, BadRoom, BadValue, BadWidth, Broken, NotThere, StoreError
from btreelog.stores import opened, risen
from tests.shapes import tree
from tests.things import Grumpy, no_numbers, no_texts
from tests.watching import KEPT

BOUND = 10 ** 60
NO_WHOLE = [*no_numbers(), True, False, "3", "10", [3], (10,), {3: 3}]
NO_WIDTHS = [*NO_WHOLE, 2, 65, 1, 0, -1, -3, -64, 66, 1000, BOUND, -BOUND]
NO_ROOMS = [*NO_WHOLE, 0, 1001, -1, -1000, 1002, BOUND, -BOUND]
NO_KEYS = [*NO_WHOLE, BOUND, -BOUND, BOUND + 1, -BOUND - 1, 10 ** 300]
NO_VALUES = [*no_texts(), "x" * 61, "x" * 1000, "\n", "a\n", "\tb", "\x7f", "\x1f", "a\x00b", "\xe9",
             "x" * 59 + "\u20ac"]


class RefusalTest(unittest.TestCase):
    def refused(self, kind, call):
        with self.assertRaises(StoreError) as told:
            call()
        self.assertIs(type(told.exception), kind)


class WidthAndRoomTest(RefusalTest):
    def test_each_width_and_room_within_the_bounds(self):
        for width in range(3, 65):
            self.assertEqual(opened(width, 10).deeds, [])
            self.assertEqual(risen(width, 10, {}, []).deeds, [])
        for room in (1, 2, 3, 500, 999, 1000):
            self.assertEqual(opened(3, room).deeds, [])
            self.assertEqual(risen(3, room, {}, []).deeds, [])

    def test_what_is_no_width(self):
        for width in NO_WIDTHS:
            with self.subTest(kind=type(width)):
                self.refused(BadWidth, lambda: opened(width, 10))
                self.refused(BadWidth, lambda: risen(width, 10, {}, []))
                self.refused(BadWidth, lambda: risen(width, 10, tree([2, 2]), [("block", 1, None), KEPT]))

    def test_what_is_no_room(self):
        for room in NO_ROOMS:
            with self.subTest(kind=type(room)):
                self.refused(BadRoom, lambda: opened(3, room))
                self.refused(BadRoom, lambda: risen(3, room, {}, []))
                self.refused(BadRoom, lambda: risen(3, room, tree([2, 2]), [("block", 1, None), KEPT]))

    def test_a_width_is_looked_at_ahead_of_a_room(self):
        for width in NO_WIDTHS:
            for room in (0, 1001, None, Grumpy(), True):
                self.refused(BadWidth, lambda: opened(width, room))
                self.refused(BadWidth, lambda: risen(width, room, {}, []))

    def test_both_are_looked_at_ahead_of_the_disk(self):
        broken = {0: ("branch", ())}
        for width in (2, 65, None, True, Grumpy()):
            self.refused(BadWidth, lambda: risen(width, 10, broken, []))
            self.refused(BadWidth, lambda: risen(width, 0, broken, []))
            self.refused(BadWidth, lambda: risen(width, 10, None, Grumpy()))
        for room in (0, 1001, None, True, Grumpy()):
            self.refused(BadRoom, lambda: risen(3, room, broken, []))
            self.refused(BadRoom, lambda: risen(3, room, Grumpy(), None))


class RequestsTest(RefusalTest):
    def setUp(self):
        self.stores = [opened(3, 1000), opened(3, 7), risen(3, 5, tree([[2, 3], [3, 2]]), [])]
        for k in range(0, 50, 10):
            self.stores[1].put(k, f"v{k}")
        for k in range(0, 100, 20):
            self.stores[2].put(k, f"w{k}")

    def refused_by_each(self, kind, call):
        for store in self.stores:
            deeds, pairs = list(store.deeds), store.pairs()
            self.refused(kind, lambda: call(store))
            self.assertEqual(store.deeds, deeds)
            self.assertEqual(store.pairs(), pairs)

    def tearDown(self):
        # The stores go on as if nothing had been refused.
        for store in self.stores:
            then = dict(store.pairs())
            store.put(15, "x")
            self.assertEqual(store.pairs(), sorted({**then, 15: "x"}.items()))

    def test_what_is_no_key(self):
        for key in NO_KEYS:
            with self.subTest(kind=type(key)):
                self.refused_by_each(BadKey, lambda store: store.put(key, "v"))
                self.refused_by_each(BadKey, lambda store: store.drop(key))
                self.refused_by_each(BadKey, lambda store: store.value_at(key))
                self.refused_by_each(BadKey, lambda store: store.between(key, 30))
                self.refused_by_each(BadKey, lambda store: store.between(0, key))
                self.refused_by_each(BadKey, lambda store: store.between(key, key))

    def test_what_is_no_key_though_it_equals_one_that_is_held(self):
        for store in self.stores:
            store.put(0, "nought")
            store.put(1, "one")
        for key in (True, False):
            self.refused_by_each(BadKey, lambda store: store.put(key, "v"))
            self.refused_by_each(BadKey, lambda store: store.drop(key))
            self.refused_by_each(BadKey, lambda store: store.value_at(key))
            self.refused_by_each(BadKey, lambda store: store.between(key, 30))

    def test_bounds_that_are_none_also_where_the_low_one_is_above_the_high_one(self):
        self.refused_by_each(BadKey, lambda store: store.between(BOUND, 0))
        self.refused_by_each(BadKey, lambda store: store.between(0, -BOUND))
        self.refused_by_each(BadKey, lambda store: store.between(BOUND, -BOUND))

    def test_what_is_no_value(self):
        for value in NO_VALUES:
            with self.subTest(kind=type(value)):
                self.refused_by_each(BadValue, lambda store: store.put(10, value))
                self.refused_by_each(BadValue, lambda store: store.put(11, value))

    def test_a_key_is_looked_at_ahead_of_its_value(self):
        for key in NO_KEYS:
            for value in (None, 5, "\n", "x" * 61, Grumpy()):
                self.refused_by_each(BadKey, lambda store: store.put(key, value))

    def test_a_key_that_is_not_held(self):
        for key in (-1, 5, 11, 39, 101, 1000, BOUND - 1, 1 - BOUND):
            self.refused_by_each(NotThere, lambda store: store.drop(key))

    def test_a_key_that_is_held_no_more(self):
        for store in self.stores:
            store.put(20, "")
            store.drop(20)
        self.refused_by_each(NotThere, lambda store: store.drop(20))

    def test_an_empty_text_is_held(self):
        for store in self.stores:
            store.put(20, "")
            self.assertEqual(store.value_at(20), "")
            store.drop(20)
            self.assertIsNone(store.value_at(20))

    def test_the_keys_just_within_the_bounds(self):
        for store in self.stores:
            for key in (BOUND - 1, 1 - BOUND):
                self.assertIsNone(store.value_at(key))
                store.put(key, "v")
                self.assertEqual(store.between(key, key), [(key, "v")])
                store.drop(key)

    def test_a_refusal_is_a_value_error(self):
        for store in self.stores:
            for call in (lambda: store.put(None, "v"), lambda: store.put(1, None), lambda: store.drop(-1),
                         lambda: opened(1, 1), lambda: opened(3, 0), lambda: risen(3, 1, {5: ("leaf", ())}, [])):
                with self.assertRaises(ValueError):
                    call()


class BrokenTest(RefusalTest):
    """The blocks that are redone are no sound tree, by what stands on the disk or by what the log makes of it."""

    SOUND = tree([[2, 3], [3, 2]])

    def bad(self):
        """Rows of changes, None where a block goes, each of which makes the tree unsound."""
        blocks = self.SOUND
        return {
            "no root, but others": {0: None},
            "a root without pairs": {0: ("branch", ())},
            "a root of one pair": {0: ("branch", ((0, 1),)), **{number: None for number in (4, 5, 6)}},
            "a root of one pair, others left": {0: ("branch", ((0, 1),))},
            "too many pairs": {3: ("leaf", tuple((20 + k, "v") for k in range(4)))},
            "too few pairs": {6: ("leaf", ((80, "v"),))},
            "no pairs": {6: ("leaf", ())},
            "a branch of one pair": {4: ("branch", blocks[4][1][:1]), 6: None},
            "a number that is not there": {2: None},
            "a last number that is not there": {6: None},
            "a block named twice": {4: ("branch", ((50, 5), (80, 5))), 6: None},
            "a block named by two": {4: ("branch", ((50, 5), (80, 3))), 6: None},
            "a leaf named by none": {7: ("leaf", ((500, "v"), (501, "v")))},
            "a branch named by none": {7: ("branch", ((0, 1), (50, 4)))},
            "a block of a number below nought": {-1: ("leaf", ((500, "v"), (501, "v")))},
            "a circle": {4: ("branch", ((50, 5), (80, 4))), 6: None},
            "a least key that is another": {4: ("branch", ((50, 5), (81, 6)))},
            "a least key of the root that is another": {0: ("branch", ((-1, 1), (50, 4)))},
            "leaves of different depth": {4: ("leaf", ((50, "v"), (60, "v"))), 5: None, 6: None},
            "a key twice": {5: ("leaf", ((50, "v"), (60, "v"), (80, "v")))},
            "keys that fall": {2: ("leaf", ((0, "v"), (1000, "v")))},
        }

    def test_the_sound_tree_comes_up(self):
        self.assertEqual(len(risen(3, 10, self.SOUND, []).pairs()), 10)

    def test_broken_on_the_disk(self):
        for name, changes in self.bad().items():
            with self.subTest(name=name):
                blocks = {number: block for number, block in {**self.SOUND, **changes}.items() if block is not None}
                before = dict(blocks)
                self.refused(Broken, lambda: risen(3, 10, blocks, []))
                self.refused(Broken, lambda: risen(3, 1, blocks, [KEPT]))
                self.assertEqual(blocks, before)

    def test_broken_by_a_group_of_the_log(self):
        for name, changes in self.bad().items():
            with self.subTest(name=name):
                log = [("block", number, block) for number, block in changes.items()] + [KEPT]
                self.refused(Broken, lambda: risen(3, 10, self.SOUND, log))
                self.refused(Broken, lambda: risen(3, 10, self.SOUND, log + [("block", 0, self.SOUND[0])]))
                self.assertEqual(self.SOUND, tree([[2, 3], [3, 2]]))

    def test_an_entry_behind_the_last_mark_does_not_break(self):
        for name, changes in self.bad().items():
            with self.subTest(name=name):
                log = [("block", number, block) for number, block in changes.items()]
                for row in (log, [KEPT] + log, [("block", 2, self.SOUND[2]), KEPT] + log):
                    store = risen(3, 10, self.SOUND, row)
                    self.assertEqual(store.deeds, [("clear",)])
                    self.assertEqual(store.pairs(), [(10 * k, f"v{k}") for k in range(10)])

    def test_a_group_of_the_log_mends(self):
        for name, changes in self.bad().items():
            with self.subTest(name=name):
                blocks = {number: block for number, block in {**self.SOUND, **changes}.items() if block is not None}
                log = [("block", number, self.SOUND.get(number)) for number in changes]
                store = risen(3, 10, blocks, log + [KEPT])
                self.assertEqual(store.pairs(), [(10 * k, f"v{k}") for k in range(10)])
                self.assertEqual(store.deeds[-1], ("clear",))
                self.refused(Broken, lambda: risen(3, 10, blocks, log))
                self.refused(Broken, lambda: risen(3, 10, blocks, [KEPT] + log))

    def test_a_later_group_breaks_and_mends(self):
        for name, changes in self.bad().items():
            breaks = [("block", number, block) for number, block in changes.items()] + [KEPT]
            mends = [("block", number, self.SOUND.get(number)) for number in changes] + [KEPT]
            self.assertEqual(risen(3, 10, self.SOUND, breaks + mends).deeds, [("clear",)])
            self.refused(Broken, lambda: risen(3, 10, self.SOUND, breaks + mends + breaks))

    def test_another_width(self):
        blocks = tree([[2, 3], [3, 2]])
        for width in (3, 4):
            self.assertEqual(len(risen(width, 10, blocks, []).pairs()), 10)
        for width in (5, 6, 7, 64):
            self.refused(Broken, lambda: risen(width, 10, blocks, []))
        self.refused(Broken, lambda: risen(3, 10, tree(4), []))
        self.refused(Broken, lambda: risen(3, 10, tree([4, 2]), []))
        self.assertEqual(len(risen(4, 10, tree([4, 2]), []).pairs()), 6)

    def test_leaves_that_overlap_though_a_branch_is_as_it_should_be(self):
        blocks = {**tree([2, 2]), 1: ("leaf", ((0, "v"), (20, "v")))}
        self.refused(Broken, lambda: risen(3, 10, blocks, []))
        blocks = {**tree([2, 2]), 1: ("leaf", ((0, "v"), (19, "v")))}
        self.assertEqual(len(risen(3, 10, blocks, []).pairs()), 4)


if __name__ == "__main__":
    unittest.main()
