"""Points 10 to 12: the deeds of a store, what it puts into the log, and how it settles."""

import unittest

from btreelog.stores import opened, risen
from tests.shapes import tree
from tests.watching import KEPT, Watched, disk_of, done_to, script


def leaf(*keys):
    return ("leaf", tuple((key, "v") for key in keys))


class PlainTest(unittest.TestCase):
    """A few deeds, written out."""

    def test_none_at_first(self):
        store = opened(3, 1)
        self.assertEqual(store.deeds, [])
        self.assertIs(type(store.deeds), list)

    def test_a_first_put(self):
        store = opened(3, 10)
        store.put(5, "v")
        self.assertEqual(store.deeds, [("log", ("block", 0, leaf(5))), ("log", KEPT)])

    def test_the_block_of_a_request_then_its_mark(self):
        store = opened(3, 10)
        for key in (5, 3, 4):
            store.put(key, "v")
        self.assertEqual(store.deeds, [
            ("log", ("block", 0, leaf(5))), ("log", KEPT), ("log", ("block", 0, leaf(3, 5))), ("log", KEPT),
            ("log", ("block", 0, leaf(3, 4, 5))), ("log", KEPT),
        ])
        store.drop(4)
        self.assertEqual(store.deeds[6:], [("log", ("block", 0, leaf(3, 5))), ("log", KEPT)])

    def test_blocks_by_rising_numbers_then_the_mark(self):
        store = opened(3, 1000)
        for key in (1, 2, 3, 4):
            store.put(key, "v")
        words = [deed[1][:2] for deed in store.deeds[6:]]
        self.assertEqual(words, [("block", 0), ("block", 1), ("block", 2), KEPT])
        store.drop(2)
        self.assertEqual(store.deeds[10:], [("log", ("block", 0, leaf(1, 3, 4))), ("log", ("block", 1, None)),
                                            ("log", ("block", 2, None)), ("log", KEPT)])

    def test_nothing_where_no_block_changes(self):
        store = opened(3, 3)
        for key in (1, 2, 3, 4):
            store.put(key, "v")
        before = list(store.deeds)
        for key in (1, 2, 3, 4):
            self.assertIsNone(store.put(key, "v"))
        self.assertEqual(store.deeds, before)
        # Also not where the log has as many entries as the room by the next request.
        store = opened(3, 3)
        store.put(1, "v")
        store.put(1, "v")
        store.put(1, "v")
        self.assertEqual(len(store.deeds), 2)

    def test_a_room_of_one(self):
        store = opened(3, 1)
        store.put(5, "v")
        self.assertEqual(store.deeds,
                         [("log", ("block", 0, leaf(5))), ("log", KEPT), ("write", 0, leaf(5)), ("clear",)])
        store.drop(5)
        self.assertEqual(store.deeds[4:],
                         [("log", ("block", 0, ("leaf", ()))), ("log", KEPT), ("write", 0, ("leaf", ())), ("clear",)])
        self.assertEqual(store.settle(5), 0)

    def test_as_many_entries_as_the_room_or_more(self):
        for room, many in ((2, 1), (3, 2), (4, 2), (5, 3), (6, 3), (7, 4)):
            with self.subTest(room=room):
                store = opened(64, room)
                for k in range(many):
                    self.assertNotIn(("clear",), store.deeds)
                    store.put(k, "v")
                self.assertEqual(store.deeds[2 * many:], [("write", 0, leaf(*range(many))), ("clear",)])
                # From then on the log is empty, and takes as much again.
                for k in range(many - 1):
                    store.put(100 + k, "v")
                    self.assertEqual(len(store.deeds), 2 * many + 4 + 2 * k)

    def test_a_room_of_a_thousand(self):
        store = opened(64, 1000)
        for k in range(499):
            store.put(1, str(k))
        self.assertEqual(len(store.deeds), 998)
        store.put(1, "last")
        self.assertEqual(store.deeds[998:], [("log", ("block", 0, ("leaf", ((1, "last"),)))), ("log", KEPT),
                                             ("write", 0, ("leaf", ((1, "last"),))), ("clear",)])

    def test_settling_writes_by_the_least_number_then_clears(self):
        store = opened(3, 1000)
        for key in (1, 2, 3, 4):
            store.put(key, "v")
        many = len(store.deeds)
        self.assertEqual(store.settle(0), 0)
        self.assertEqual(store.settle(-1), 0)
        self.assertEqual(store.settle(-(10 ** 30)), 0)
        self.assertEqual(len(store.deeds), many)
        root = next(deed[1][2] for deed in reversed(store.deeds) if deed[1][:2] == ("block", 0))
        self.assertEqual(store.settle(1), 1)
        self.assertEqual(store.deeds[many:], [("write", 0, root)])
        self.assertEqual(store.settle(2), 2)
        self.assertEqual([deed[:2] for deed in store.deeds[many + 1:]], [("write", 1), ("write", 2)])
        self.assertEqual(store.settle(1), 1)
        self.assertEqual(store.deeds[many + 3:], [("clear",)])
        self.assertEqual(store.settle(1), 0)
        self.assertEqual(store.settle(1000), 0)
        self.assertEqual(len(store.deeds), many + 4)

    def test_settling_more_than_there_is(self):
        for many in (4, 5, 1000, 10 ** 30):
            store = opened(3, 1000)
            for key in (1, 2, 3, 4):
                store.put(key, "v")
            self.assertEqual(store.settle(many), 4)
            self.assertEqual(store.deeds[-1], ("clear",))

    def test_an_empty_store_has_nothing_to_settle(self):
        store = opened(3, 1)
        for many in (-1, 0, 1, 2, 1000):
            self.assertEqual(store.settle(many), 0)
        self.assertEqual(store.deeds, [])

    def test_no_clearing_while_a_block_waits(self):
        store = opened(3, 1000)
        for key in (1, 2, 3, 4):
            store.put(key, "v")
        self.assertEqual(store.settle(3), 3)
        store.put(1, "w")
        # One block waits again, and is written ahead of the clearing.
        many = len(store.deeds)
        self.assertEqual(store.settle(1), 1)
        self.assertEqual(store.deeds[many][0], "write")
        self.assertEqual(store.settle(1), 1)
        self.assertEqual(store.deeds[many + 1], ("clear",))

    def test_a_block_is_written_as_it_is_by_now(self):
        store = opened(3, 1000)
        store.put(1, "a")
        store.put(1, "b")
        store.put(2, "c")
        self.assertEqual(store.settle(1), 1)
        self.assertEqual(store.deeds[-1], ("write", 0, ("leaf", ((1, "b"), (2, "c")))))

    def test_a_block_that_the_disk_has_so_already_is_written(self):
        store = opened(3, 1000)
        store.put(1, "a")
        store.settle(10)
        store.put(1, "b")
        store.put(1, "a")
        many = len(store.deeds)
        self.assertEqual(store.settle(10), 2)
        self.assertEqual(store.deeds[many:], [("write", 0, ("leaf", ((1, "a"),))), ("clear",)])

    def test_a_block_that_came_and_went_is_written_as_none(self):
        store = opened(3, 1000)
        for key in (1, 2, 3):
            store.put(key, "v")
        store.settle(10)
        store.put(4, "v")
        store.drop(4)
        store.drop(3)
        many = len(store.deeds)
        self.assertEqual(store.settle(10), 4)
        self.assertEqual(store.deeds[many:],
                         [("write", 0, leaf(1, 2)), ("write", 1, None), ("write", 2, None), ("clear",)])

    def test_a_number_that_goes_and_comes_again_waits_once(self):
        store = opened(3, 1000)
        for key in (1, 2, 3, 4):
            store.put(key, "v")
        store.settle(10)
        store.drop(4)
        store.drop(3)
        store.put(3, "w")
        store.put(4, "w")
        many = len(store.deeds)
        self.assertEqual(store.settle(10), 4)
        self.assertEqual([deed[1:2] for deed in store.deeds[many:]], [(0,), (1,), (2,), ()])
        self.assertNotIn(None, [deed[2] for deed in store.deeds[many:-1]])


class WatchedTest(unittest.TestCase):
    """Each deed of many requests, against what the points say."""

    def test_many_requests(self):
        for width in (3, 4, 5, 9, 64):
            for room in (1, 2, 7, 30, 1000):
                with self.subTest(width=width, room=room):
                    watched = Watched(self, width, room)
                    for call in script(160, 53):
                        done_to(watched, call)

    def test_settlings_of_every_number(self):
        watched = Watched(self, 3, 1000)
        for turn in range(12):
            for k in range(12):
                watched.put(turn + 5 * k, f"v{turn}")
            watched.drop(turn + 5)
            for many in (turn, -turn, 1, 0):
                watched.settle(many)
        watched.settle(1000)
        watched.settle(1)

    def test_keys_that_come_and_go(self):
        for width, many in ((3, 60), (6, 90)):
            watched = Watched(self, width, 40)
            for k in range(many):
                watched.put(k * 7 % many, "v")
            for k in range(many):
                watched.drop(k * 11 % many)
            watched.put(1, "again")

    def test_a_tree_with_free_numbers_below(self):
        watched = Watched(self, 3, 25, tree([[2, 3], [3, 2], [2, 2, 3]], range(5, 60, 5)))
        for k in range(1, 170, 7):
            watched.put(k, "x")
        for k in range(0, 160, 10):
            watched.drop(k)

    def test_each_block_written_stands_in_the_log(self):
        for room in (1, 10, 100):
            store = opened(3, room)
            for call in script(120, 40):
                getattr(store, call[0])(*call[1:])
            for at, deed in enumerate(store.deeds):
                if deed[0] == "write":
                    log = disk_of(store.deeds[:at])[1]
                    last = max(place for place, entry in enumerate(log) if entry[:2] == ("block", deed[1]))
                    self.assertEqual(log[last][2], deed[2])
                    self.assertIn(KEPT, log[last:])


class RisenTest(unittest.TestCase):
    """Point 9: the deeds with which a store comes up."""

    def check(self, blocks, log, deeds, width=3, room=1000):
        store = risen(width, room, blocks, log)
        self.assertEqual(store.deeds, deeds)
        self.assertEqual(store.settle(1000), 0)
        watched = Watched(self, width, room, blocks, log)
        for k in range(8):
            watched.put(25 * k + 3, "x")
        watched.drop(3)
        return store

    def test_nothing_to_settle(self):
        self.check({}, [], [])
        self.check(tree([2, 3]), [], [])
        self.check({0: ("leaf", ())}, [], [])

    def test_a_log_of_marks_alone(self):
        self.check({}, [KEPT], [("clear",)])
        self.check(tree([2, 3]), [KEPT, KEPT], [("clear",)])

    def test_entries_without_a_mark(self):
        self.check({}, [("block", 0, leaf(1))], [("clear",)])
        self.check(tree([2, 3]), [("block", 0, leaf(1)), ("block", 1, None)], [("clear",)])

    def test_a_block_that_is_another_on_the_disk(self):
        self.check({}, [("block", 0, leaf(1)), KEPT], [("write", 0, leaf(1)), ("clear",)])
        self.check({0: leaf(2)}, [("block", 0, leaf(1)), KEPT], [("write", 0, leaf(1)), ("clear",)])

    def test_a_block_that_the_disk_has_so_already(self):
        self.check({0: leaf(1)}, [("block", 0, leaf(1)), KEPT], [("clear",)])
        self.check({0: leaf(1)}, [("block", 0, leaf(2)), KEPT, ("block", 0, leaf(1)), KEPT], [("clear",)])

    def test_blocks_by_rising_numbers(self):
        blocks = tree([2, 3], (9, 4))
        log = [("block", 9, leaf(0, 1)), ("block", 4, leaf(20, 21)), ("block", 9, leaf(0, 2)), KEPT]
        self.check(blocks, log, [("write", 4, leaf(20, 21)), ("write", 9, leaf(0, 2)), ("clear",)])

    def test_a_block_that_is_gone(self):
        blocks = tree([2, 2])
        log = [("block", 0, leaf(1)), ("block", 1, None), ("block", 2, None), KEPT]
        self.check(blocks, log, [("write", 0, leaf(1)), ("write", 1, None), ("write", 2, None), ("clear",)])
        # Of these the disk has lost one already, and one was never there.
        del blocks[1]
        self.check(blocks, [*log[:3], ("block", 77, None), KEPT],
                   [("write", 0, leaf(1)), ("write", 2, None), ("clear",)])

    def test_entries_behind_the_last_mark_change_nothing(self):
        log = [("block", 0, leaf(1)), KEPT, ("block", 0, leaf(2)), ("block", 5, leaf(3, 4))]
        self.check({}, log, [("write", 0, leaf(1)), ("clear",)])
        self.check({0: leaf(1)}, log, [("clear",)])

    def test_a_root_that_is_gone_stays_unwritten(self):
        log = [("block", 0, None), KEPT]
        store = self.check({0: leaf(1)}, log, [("write", 0, None), ("clear",)])
        self.assertEqual(store.pairs(), [])
        self.check({}, log, [("clear",)])

    def test_all_is_settled_whatever_the_room(self):
        blocks = tree([[2, 3], [3, 2]])
        log = [("block", 2, leaf(0, 5)), KEPT]
        for room in (1, 2, 3, 1000):
            self.check(blocks, log, [("write", 2, leaf(0, 5)), ("clear",)], room=room)

    def test_a_log_longer_than_the_room(self):
        log = []
        for k in range(300):
            log += [("block", 0, leaf(k)), KEPT]
        self.check({}, log, [("write", 0, leaf(299)), ("clear",)], room=2)


if __name__ == "__main__":
    unittest.main()
