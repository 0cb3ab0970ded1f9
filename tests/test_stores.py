"""Points 9 and 11, as far as they say what a store holds, against a plain dict; and of these, point 1."""

import unittest

from btreelog.disks import done
from btreelog.stores import Store, opened, risen
from tests.shapes import full_shape, in_order, orders, tree
from tests.watching import script

BOUND = 10 ** 60


class HeldTest(unittest.TestCase):
    def look(self, store, held, around=()):
        """Looks at all that a store holds."""
        pairs = sorted(held.items())
        self.assertEqual(store.pairs(), pairs)
        for key in around or held:
            for near in (key - 1, key, key + 1):
                self.assertEqual(store.value_at(near), held.get(near))
        bounds = [1 - BOUND, BOUND - 1, *around, *list(held)[::7]]
        for low in bounds:
            for high in bounds:
                self.assertEqual(store.between(low, high), [pair for pair in pairs if low <= pair[0] <= high])

    def test_an_empty_store(self):
        for width in (3, 64):
            for room in (1, 1000):
                store = opened(width, room)
                self.assertIs(type(store), Store)
                self.assertEqual(store.deeds, [])
                self.look(store, {}, (-1, 0, 7))
                store = risen(width, room, {}, [])
                self.assertIs(type(store), Store)
                self.assertEqual(store.deeds, [])
                self.look(store, {}, (-1, 0, 7))

    def test_puts_of_new_keys_in_any_order(self):
        for width in (3, 4, 7, 64):
            for name, row in orders(90).items():
                with self.subTest(width=width, order=name):
                    store, held = opened(width, 20), {}
                    for k in row:
                        self.assertIsNone(store.put(2 * k, f"v{k}"))
                        held[2 * k] = f"v{k}"
                    self.look(store, held, (0, 90, 178))

    def test_another_value_and_the_same_value(self):
        store, held = opened(3, 1000), {}
        for turn in ("a", "b", "b", "", "a"):
            for k in range(20):
                self.assertIsNone(store.put(k, turn))
                held[k] = turn
                self.assertEqual(store.value_at(k), turn)
            self.look(store, held)

    def test_drops_in_any_order(self):
        for width in (3, 5, 64):
            for name, row in orders(60).items():
                store, held = opened(width, 15), {}
                for k in range(60):
                    store.put(k, "v")
                    held[k] = "v"
                for k in row:
                    self.assertIsNone(store.drop(k))
                    del held[k]
                    self.assertIsNone(store.value_at(k))
                    if k % 6 == 0:
                        self.look(store, held, (0, k, 59))
                self.look(store, {}, (0, 30))

    def test_mixed_requests(self):
        for width in (3, 4, 6, 33):
            for room in (1, 9, 1000):
                store, held = opened(width, room), {}
                for at, call in enumerate(script(200, 47)):
                    getattr(store, call[0])(*call[1:])
                    if call[0] == "put":
                        held[call[1]] = call[2]
                    if call[0] == "drop":
                        del held[call[1]]
                    if at % 9 == 0:
                        self.look(store, held, (-3, call[1]))
                self.look(store, held, (-3, 20))

    def test_between(self):
        for width in (3, 8):
            store = opened(width, 10)
            for k in range(0, 100, 5):
                store.put(k, f"v{k}")
            for low in range(-7, 108):
                for high in range(-7, 108):
                    then = [(k, f"v{k}") for k in range(0, 100, 5) if low <= k <= high]
                    self.assertEqual(store.between(low, high), then)
            self.assertEqual(store.between(25, 25), [(25, "v25")])
            self.assertEqual(store.between(26, 26), [])
            self.assertEqual(store.between(30, 25), [])
            self.assertEqual(store.between(26, 29), [])
            self.assertEqual(store.between(BOUND - 1, 1 - BOUND), [])

    def test_keys_and_values_by_their_bounds(self):
        store, held = opened(3, 3), {}
        for key in (1 - BOUND, BOUND - 1, 0, 2 - BOUND, BOUND - 2):
            for value in ("", "~" * 60, " " * 60):
                store.put(key, value)
                held[key] = value
            self.assertEqual(store.pairs(), sorted(held.items()))
        self.assertEqual(store.between(1 - BOUND, BOUND - 1), sorted(held.items()))
        self.assertEqual(store.between(1 - BOUND, 1 - BOUND), [(1 - BOUND, " " * 60)])
        store.drop(BOUND - 1)
        self.assertEqual(store.between(BOUND - 1, BOUND - 1), [])

    def test_two_stores_side_by_side(self):
        one, other = opened(3, 5), opened(3, 5)
        for k in range(30):
            one.put(k, "one")
            other.put(2 * k, "other")
            if k % 4 == 3:
                one.drop(k - 1)
        dropped = range(2, 29, 4)
        self.assertEqual(one.pairs(), [(k, "one") for k in range(30) if k not in dropped])
        self.assertEqual(other.pairs(), [(2 * k, "other") for k in range(30)])
        self.assertIsNot(one.deeds, other.deeds)
        many = len(other.deeds)
        one.settle(1000)
        one.put(1000, "x")
        self.assertEqual(len(other.deeds), many)
        self.assertIsNone(other.value_at(1000))

    def test_two_stores_from_one_disk(self):
        blocks, log = tree([2, 3]), [("block", 1, ("leaf", ((0, "w"), (10, "w")))), ("kept",)]
        one = risen(3, 5, blocks, log)
        other = risen(3, 50, blocks, log)
        one.put(5, "x")
        one.drop(40)
        self.assertEqual(other.pairs(), [(0, "w"), (10, "w"), (20, "v2"), (30, "v3"), (40, "v4")])
        other.put(0, "y")
        self.assertEqual(one.pairs(), [(0, "w"), (5, "x"), (10, "w"), (20, "v2"), (30, "v3")])


class OwnTest(unittest.TestCase):
    """Point 1: what is handed in stays and is not kept, what is told is the asker's own."""

    LOG = [("block", 1, ("leaf", ((0, "w"), (10, "w")))), ("kept",), ("block", 2, None)]
    THEN = [(0, "w"), (10, "w"), (20, "v2"), (30, "v3"), (40, "v4")]

    def test_the_disk_stays_as_it_was(self):
        blocks, log = tree([2, 3]), list(self.LOG)
        store = risen(3, 5, blocks, log)
        for k in range(30):
            store.put(k, "x")
        for k in range(0, 30, 2):
            store.drop(k)
        store.settle(100)
        self.assertEqual(list(blocks.items()), list(tree([2, 3]).items()))
        self.assertEqual(log, self.LOG)

    def test_the_disk_may_change_behind_the_call(self):
        for change in (lambda blocks, log: (blocks.clear(), log.clear()),
                       lambda blocks, log: (blocks.update({0: ("leaf", ()), 7: None}), log.append(("kept",))),
                       lambda blocks, log: (blocks.pop(1), log.insert(0, ("kept",)))):
            blocks, log = tree([2, 3]), list(self.LOG)
            store = risen(3, 5, blocks, log)
            deeds = list(store.deeds)
            change(blocks, log)
            self.assertEqual(store.pairs(), self.THEN)
            self.assertEqual(store.deeds, deeds)
            self.assertEqual(store.settle(10), 0)
            store.put(25, "x")
            self.assertEqual(store.pairs(), sorted(self.THEN + [(25, "x")]))

    def test_a_disk_without_a_log_may_change_behind_the_call(self):
        blocks, log = tree([2, 3]), []
        store = risen(3, 5, blocks, log)
        blocks[0] = ("leaf", ())
        log.append(("block", 0, None))
        self.assertEqual(store.pairs(), [(10 * k, f"v{k}") for k in range(5)])
        store.put(0, "x")
        self.assertEqual(store.deeds[0], ("log", ("block", 1, ("leaf", ((0, "x"), (10, "v1"))))))

    def test_an_empty_disk_may_change_behind_the_call(self):
        blocks, log = {}, []
        store = risen(3, 5, blocks, log)
        store.put(1, "a")
        self.assertEqual((blocks, log), ({}, []))
        blocks[5] = ("leaf", ((1, "x"),))
        store.put(2, "b")
        store.put(3, "c")
        store.put(4, "d")
        self.assertEqual(store.pairs(), [(1, "a"), (2, "b"), (3, "c"), (4, "d")])

    def test_what_is_told_is_the_askers_own(self):
        store = opened(3, 5)
        for k in range(20):
            store.put(k, "v")
        then = [(k, "v") for k in range(20)]
        for ask in (store.pairs, lambda: store.between(-5, 50), lambda: store.between(3, 9)):
            told = ask()
            before = list(told)
            self.assertIs(type(told), list)
            store.put(3, "other")
            self.assertEqual(told, before)
            store.put(3, "v")
            told.clear()
            told.append("mine")
            self.assertEqual(ask(), before)
            self.assertEqual(store.pairs(), then)

    def test_asking_does_no_deed(self):
        store = opened(3, 5)
        for k in range(20):
            store.put(k, "v")
        deeds = list(store.deeds)
        store.pairs()
        store.between(2, 5)
        store.between(5, 2)
        store.value_at(3)
        store.value_at(50)
        self.assertEqual(store.deeds, deeds)

    def test_the_deeds_that_are_noted_make_the_disk(self):
        store = opened(4, 12)
        disk = ({}, [])
        many = 0
        for call in script(150, 40):
            getattr(store, call[0])(*call[1:])
            for deed in store.deeds[many:]:
                disk = done(*disk, deed)
            many = len(store.deeds)
            self.assertEqual(risen(4, 12, *disk).pairs(), store.pairs())
        store.settle(1000)
        for deed in store.deeds[many:]:
            disk = done(*disk, deed)
        self.assertEqual(disk[1], [])
        self.assertEqual(in_order(disk[0]), store.pairs())

    def test_a_disk_of_a_tree_made_by_hand(self):
        for width, fan in ((3, 2), (4, 3), (5, 5)):
            for levels in (1, 2, 3, 4):
                blocks = tree(full_shape(levels, width, fan), range(7, 10000, 3))
                store = risen(width, 7, blocks, [])
                self.assertEqual(store.deeds, [])
                self.assertEqual(store.pairs(), in_order(blocks))


if __name__ == "__main__":
    unittest.main()
