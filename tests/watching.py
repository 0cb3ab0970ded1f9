"""A store beside what points 9 to 13 say that it must do, worked out by hand at each step."""

from btreelog.stores import risen
from tests.shapes import behind, in_order, least_free, why_unsound

KEPT = ("kept",)
EMPTY = ("leaf", ())


def disk_of(deeds, blocks=None, log=None):
    """The blocks and the log of a disk that has had these deeds."""
    blocks = dict(blocks or {})
    log = list(log or [])
    for deed in deeds:
        if deed[0] == "log":
            log.append(deed[1])
        elif deed[0] == "write":
            blocks = behind(blocks, {deed[1]: deed[2]})
        else:
            assert deed == ("clear",), deed
            log = []
    return blocks, log


def counted(blocks, log):
    """The blocks behind all groups of a log."""
    many = max([at + 1 for at, entry in enumerate(log) if entry == KEPT], default=0)
    for entry in log[:many]:
        if entry != KEPT:
            blocks = behind(blocks, {entry[1]: entry[2]})
    return blocks


class Watched:
    """A store that has come up from a disk; each call is looked at by its deeds and what is held then."""

    def __init__(self, case, width, room, blocks=None, log=None):
        self.case = case
        self.width = width
        self.room = room
        self.disk = (dict(blocks or {}), list(log or []))
        self.blocks = dict(counted(*self.disk))
        self.logged = len(self.disk[1])
        self.waiting = {entry[1] for entry in self.disk[1] if entry != KEPT
                        and self.disk[0].get(entry[1]) != self.blocks.get(entry[1])}
        self.store = risen(width, room, *self.disk)
        case.assertIs(type(self.store.deeds), list)
        case.assertEqual(self.store.deeds, self.to_settle())
        self.settled(len(self.store.deeds))
        self.look()

    def tree(self):
        return {0: EMPTY, **self.blocks}

    def held(self):
        return dict(in_order(self.tree()))

    def to_settle(self):
        """The deeds by which the store settles wholly as it is now."""
        writes = [("write", number, self.blocks.get(number)) for number in sorted(self.waiting)]
        return writes + [("clear",)] * (self.logged > 0)

    def settled(self, many):
        """Notes that the first so many of these deeds are done."""
        if many > len(self.waiting):
            self.logged = 0
        self.waiting = set(sorted(self.waiting)[many:])

    def look(self):
        """Looks at all that the store and its disk hold."""
        self.case.assertIsNone(why_unsound(self.tree(), self.width))
        self.case.assertEqual(self.store.pairs(), sorted(self.held().items()))
        blocks, log = disk_of(self.store.deeds, *self.disk)
        self.case.assertEqual(len(log), self.logged)
        self.case.assertEqual(counted(blocks, log), self.blocks)
        self.case.assertEqual({number for number in {**blocks, **self.blocks}
                               if blocks.get(number) != self.blocks.get(number)} - self.waiting, set())

    def put(self, key, value):
        self.request({**self.held(), key: value}, lambda: self.store.put(key, value))

    def drop(self, key):
        self.request({other: value for other, value in self.held().items() if other != key},
                     lambda: self.store.drop(key))

    def request(self, then, call):
        case, many = self.case, len(self.store.deeds)
        same = then == self.held()
        case.assertIsNone(call())
        new = self.store.deeds[many:]
        if same:
            case.assertEqual(new, [])
        else:
            self.logged_group(new, then)
        self.look()

    def logged_group(self, new, then):
        """Looks at the deeds of a request that changes what is held."""
        case = self.case
        at = new.index(("log", KEPT))
        for deed in new[:at]:
            case.assertEqual((deed[0], deed[1][0], len(deed), len(deed[1])), ("log", "block", 2, 3))
        numbers = [entry[1] for word, entry in new[:at]]
        case.assertTrue(numbers)
        case.assertEqual(numbers, sorted(set(numbers)))
        added = [number for number in numbers if number not in self.tree()]
        case.assertEqual(added, least_free(self.tree(), len(added)))
        for word, (block, number, what) in new[:at]:
            case.assertNotEqual(what, self.blocks.get(number))
            case.assertFalse(added and what is None)
            self.blocks = behind(self.blocks, {number: what})
            self.waiting.add(number)
        case.assertEqual(in_order(self.tree()), sorted(then.items()))
        self.logged += at + 1
        settling = self.to_settle() if self.logged >= self.room else []
        case.assertEqual(new[at + 1:], settling)
        self.settled(len(settling))

    def settle(self, many):
        before = len(self.store.deeds)
        deeds = self.to_settle()[:max(many, 0)]
        told = self.store.settle(many)
        self.case.assertIs(type(told), int)
        self.case.assertEqual(told, len(deeds))
        self.case.assertEqual(self.store.deeds[before:], deeds)
        self.settled(told)
        self.look()


def script(many, span):
    """Calls of a store, the same each time: puts of new and held keys, drops and settlings, mixed."""
    held = {}
    calls = []
    for k in range(many):
        key = (k * k * 7 + k * 13) % span - span // 3
        if k % 10 == 9:
            calls.append(("settle", k % 4))
        elif key in held and k % 5 != 3:
            calls.append(("drop", key))
            del held[key]
        else:
            calls.append(("put", key, f"v{k % 6}"))
            held[key] = True
    for at, key in enumerate(sorted(held)):
        if at % 3:
            calls.append(("drop", key))
    return calls


def done_to(thing, call):
    getattr(thing, call[0])(*call[1:])
