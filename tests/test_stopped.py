"""Point 13: a store stopped behind any of its deeds, and the one that comes up from its disk."""

import unittest

from btreelog.stores import opened, risen
from tests.shapes import in_order, why_unsound
from tests.watching import KEPT, Watched, disk_of, done_to, script


def snapshots(width, room, calls):
    """A store behind these calls, and what it held behind each of the requests that count, by their number."""
    store = opened(width, room)
    held = {}
    kept = [{}]
    for call in calls:
        getattr(store, call[0])(*call[1:])
        before = dict(held)
        if call[0] == "put":
            held[call[1]] = call[2]
        if call[0] == "drop":
            del held[call[1]]
        if held != before:
            kept.append(dict(held))
    return store, kept


def marks(deeds):
    return deeds.count(("log", KEPT))


class StoppedTest(unittest.TestCase):
    def up(self, width, room, disk, held):
        """The store that comes up from a disk that has been left with this held."""
        watched = Watched(self, width, room, *disk)
        self.assertEqual(watched.store.pairs(), sorted(held.items()))
        for key in held:
            self.assertEqual(watched.store.value_at(key), held[key])
        # Whatever was to settle is on the disk by now.
        blocks, log = disk_of(watched.store.deeds, *disk)
        self.assertEqual(log, [])
        self.assertIsNone(why_unsound({0: ("leaf", ()), **blocks}, width))
        self.assertEqual(in_order({0: ("leaf", ()), **blocks}), sorted(held.items()))
        return watched

    def go_on(self, watched):
        """What is held behind each request that counts as the store goes on."""
        kept = [watched.held()]
        for key in (4, -9, 11, 4, 30):
            watched.put(key, f"on {len(kept)}")
            kept.append(watched.held())
        watched.settle(2)
        for key in (11, min(watched.held()), max(watched.held())):
            watched.drop(key)
            kept.append(watched.held())
        return kept

    def test_stopped_behind_each_deed(self):
        for width, room, calls in ((3, 1, script(70, 31)), (3, 9, script(70, 31)), (3, 1000, script(70, 31)),
                                   (4, 14, script(90, 41)), (5, 40, script(90, 60)), (64, 12, script(60, 29))):
            store, kept = snapshots(width, room, calls)
            self.assertEqual(len(kept), marks(store.deeds) + 1)
            for many in range(len(store.deeds) + 1):
                with self.subTest(width=width, room=room, many=many):
                    deeds = store.deeds[:many]
                    watched = self.up(width, room, disk_of(deeds), kept[marks(deeds)])
                    self.go_on(watched)

    def test_the_store_that_came_up_is_stopped_behind_each_of_its_deeds(self):
        for width, room, other in ((3, 9, 1), (3, 1000, 4), (4, 14, 50)):
            store, kept = snapshots(width, room, script(45, 31))
            for many in range(len(store.deeds) + 1):
                deeds = store.deeds[:many]
                disk = disk_of(deeds)
                watched = self.up(width, other, disk, kept[marks(deeds)])
                then = self.go_on(watched)
                again = watched.store.deeds
                self.assertEqual(len(then), marks(again) + 1)
                for more in range(len(again) + 1):
                    with self.subTest(width=width, room=room, many=many, more=more):
                        self.up(width, room, disk_of(again[:more], *disk), then[marks(again[:more])])

    def test_stopped_time_and_again_as_stores_come_up(self):
        store, kept = snapshots(3, 1000, [("put", k * 7 % 60, "v") for k in range(60)] + [("drop", 5), ("drop", 6)])
        disk = disk_of(store.deeds)
        rooms = (1, 7, 1000)
        turns = 0
        while disk[1]:
            # Each store is stopped behind the first deed that it does as it comes up.
            watched = self.up(3, rooms[turns % 3], disk, kept[-1])
            disk = disk_of(watched.store.deeds[:1], *disk)
            turns += 1
        self.assertGreater(turns, 10)
        self.assertEqual(self.up(3, 5, disk, kept[-1]).store.deeds, [])

    def test_stopped_between_the_entries_of_a_request_again_and_again(self):
        disk, held = ({}, []), {}
        for k in range(60):
            # Every third store gets to its mark, the others are stopped ahead of it.
            store = risen(3, 20, *disk)
            many = len(store.deeds)
            store.put(k, f"v{k}")
            at = store.deeds.index(("log", KEPT), many)
            if k % 3 == 0:
                held[k] = f"v{k}"
                at += 1
            disk = disk_of(store.deeds[:at], *disk)
            self.up(3, 20, disk, held)

    def test_a_store_goes_on_as_one_that_was_never_stopped(self):
        calls = script(120, 43)
        store, kept = snapshots(3, 25, calls)
        watched = Watched(self, 3, 25)
        for at, call in enumerate(calls):
            done_to(watched, call)
            if at % 11 == 10:
                disk = disk_of(watched.store.deeds, *watched.disk)
                watched = self.up(3, 25, disk, watched.held())
        self.assertEqual(watched.store.pairs(), store.pairs())


if __name__ == "__main__":
    unittest.main()
