"""Stores: values by keys, kept on a disk through every stop."""

from btreelog.blocks import is_key, is_value, is_whole
from btreelog.disks import lay, redone
from btreelog.errors import BadKey, BadRoom, BadValue, BadWidth, Broken, NotThere
from btreelog.trees import drop_from, listed, put_in, sound, value_in, within


def check_width(width):
    """Refuses what is no width."""
    if not is_whole(width) or not 3 <= width <= 64:
        raise BadWidth("a width is a whole number from 3 to 64")


def check_room(room):
    """Refuses what is no room."""
    if not is_whole(room) or not 1 <= room <= 1000:
        raise BadRoom("a room is a whole number from 1 to 1000")


def check_key(key):
    """Refuses what is no key."""
    if not is_key(key):
        raise BadKey("a key is a whole number above -10 ** 60 and below 10 ** 60")


def check_value(value):
    """Refuses what is no value."""
    if not is_value(value):
        raise BadValue("a value is a text of at most 60 signs from the blank to the tilde")


def rooted(blocks):
    """The blocks with a root, which is a leaf of no pairs where there is no block 0."""
    if 0 in blocks:
        return blocks
    return {**blocks, 0: ("leaf", ())}


class Store:
    """An ordered store on a disk, which it changes by the deeds that it notes."""

    def __init__(self, width, room, blocks, log):
        check_width(width)
        check_room(room)
        self._blocks = redone(blocks, log)
        if not sound(rooted(self._blocks), width):
            raise Broken("the blocks of the disk are no sound tree of this width")
        self.deeds = []
        self._width = width
        self._room = room
        self._logged = len(log)
        logged = [entry[1] for entry in log if entry[0] == "block"]
        self._waiting = {number: True for number in logged if blocks.get(number) != self._blocks.get(number)}
        # An entry behind the last mark must be gone before a new mark would make it count.
        self._settle_wholly()

    def put(self, key, value):
        """Holds a value for a key."""
        check_key(key)
        check_value(value)
        self._request(put_in(rooted(self._blocks), self._width, key, value))

    def drop(self, key):
        """Holds a key no more."""
        if self.value_at(key) is None:
            raise NotThere("the key is not held")
        self._request(drop_from(self._blocks, self._width, key))

    def settle(self, many):
        """Settles up to so many times; how many deeds that were."""
        numbers = sorted(self._waiting)[:max(many, 0)]
        for number in numbers:
            self.deeds.append(("write", number, self._blocks.get(number)))
            del self._waiting[number]
        settled = len(numbers)
        # Where fewer waited than could be written, none waits now.
        if settled < many and self._logged > 0:
            self.deeds.append(("clear",))
            self._logged = 0
            settled += 1
        return settled

    def value_at(self, key):
        """The value of a key, or None where it is not held."""
        check_key(key)
        return value_in(rooted(self._blocks), key)

    def pairs(self):
        """The list of all pairs of keys and values, rising."""
        return listed(rooted(self._blocks))

    def between(self, low, high):
        """The list of the pairs whose keys lie from low to high, rising."""
        check_key(low)
        check_key(high)
        return within(rooted(self._blocks), low, high)

    def _request(self, changes):
        """Logs the blocks that change in a request, and settles where the log is too long then."""
        if not changes:
            return
        for number in sorted(changes):
            self._log(("block", number, changes[number]))
        self._log(("kept",))
        for number, block in changes.items():
            lay(self._blocks, number, block)
            self._waiting[number] = True
        if self._logged >= self._room:
            self._settle_wholly()

    def _log(self, entry):
        """Puts an entry behind the log."""
        self.deeds.append(("log", entry))
        self._logged += 1

    def _settle_wholly(self):
        """Settles till there is nothing to settle."""
        self.settle(len(self._waiting) + 1)


def opened(width, room):
    """The store that comes up from an empty disk."""
    return Store(width, room, {}, [])


def risen(width, room, blocks, log):
    """The store that comes up from a disk."""
    return Store(width, room, blocks, log)
