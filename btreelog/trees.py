"""Trees of blocks: whether they are sound, what they hold, and how they change where a key comes or goes."""

from btreelog.blocks import half, is_block, parts, place, rises


def row_of(level):
    """The pairs of a list of blocks, from the first block to the last."""
    return [pair for word, pairs in level for pair in pairs]


def named(blocks, pairs):
    """The blocks that the pairs of branches name."""
    return [blocks[number] for key, number in pairs]


def all_are(word, level):
    """Whether all of a list of blocks are of one word."""
    return all([block[0] == word for block in level])


def is_root(thing, width):
    """Whether anything is a block that may be the root."""
    if not is_block(thing, 0, width):
        return False
    word, pairs = thing
    return word == "leaf" or len(pairs) >= 2


def fits(thing, width, key):
    """Whether anything is a block that may stand below a pair of this key."""
    if not is_block(thing, half(width), width):
        return False
    word, pairs = thing
    return pairs[0][0] == key


def sound(blocks, width):
    """Whether the blocks are a sound tree of this width."""
    if not is_root(blocks.get(0), width):
        return False
    level = [blocks[0]]
    reached = {0: True}
    while all_are("branch", level):
        row = row_of(level)
        for key, number in row:
            # A circle ends here, too: it names a block twice.
            if number in reached or not fits(blocks.get(number), width, key):
                return False
            reached[number] = True
        level = named(blocks, row)
    return all_are("leaf", level) and rises(row_of(level)) and len(reached) == len(blocks)


def way(blocks, key):
    """The numbers of the blocks in which a key is looked for, from the root down to a leaf."""
    numbers = [0]
    word, pairs = blocks[0]
    while word == "branch":
        number = pairs[place(pairs, key)][1]
        numbers.append(number)
        word, pairs = blocks[number]
    return numbers


def value_in(blocks, key):
    """The value of a key, or None where it is not held."""
    leaf = way(blocks, key)[-1]
    return dict(blocks[leaf][1]).get(key)


def listed(blocks):
    """The list of all pairs of keys and values, rising."""
    level = [blocks[0]]
    while all_are("branch", level):
        level = named(blocks, row_of(level))
    return row_of(level)


def within(blocks, low, high):
    """The list of the pairs whose keys lie from low to high, rising."""
    if low > high:
        return []
    level = [blocks[0]]
    while all_are("branch", level):
        # No block beside those from the place of low to the place of high can hold such a key.
        rows = [pairs[place(pairs, low):place(pairs, high) + 1] for word, pairs in level]
        level = [blocks[number] for row in rows for key, number in row]
    return [pair for pair in row_of(level) if low <= pair[0] <= high]


class Change:
    """What one request makes of the blocks of a tree."""

    def __init__(self, blocks, width):
        self._blocks = blocks
        self._width = width
        self._after = {}
        self._newest = 0

    def told(self):
        """The blocks that change, None where one is gone."""
        return {number: block for number, block in self._after.items() if block != self._blocks.get(number)}

    def hold(self, key, held):
        """Puts what is held of a key, a list of one pair or of none, in the place of what was."""
        numbers = way(self._blocks, key)
        pairs = self._blocks[numbers.pop()][1]
        row = [pair for pair in pairs if pair[0] < key] + held + [pair for pair in pairs if pair[0] > key]
        word = "leaf"
        for number in reversed(numbers):
            above = self._blocks[number][1]
            row = self._fill_below(above, key, word, row)
            # Where a branch stays as it is, so does all above it.
            if tuple(row) == above:
                return
            word = "branch"
        self._fill_root(word, row)

    def _fill_below(self, above, key, word, row):
        """Fills the block below a branch in which a key is looked for with a row; the pairs of the branch then."""
        at = place(above, key)
        first = at
        last = at + 1
        if len(row) < half(self._width):
            # Too short for a block, the row is put together with that of a block beside it.
            first = max(at - 1, 0)
            last = first + 2
        before = row_of(named(self._blocks, above[first:at]))
        behind = row_of(named(self._blocks, above[at + 1:last]))
        numbers = [number for least, number in above[first:last]]
        return list(above[:first]) + self._fill(word, before + row + behind, numbers) + list(above[last:])

    def _fill(self, word, row, numbers):
        """Fills the blocks of these numbers with a row, or fewer, or new ones; the pairs that name them."""
        # Only a width below 3 makes parts without a pair.
        rows = [part for part in parts(row, self._width) if part]
        for number in numbers[len(rows):]:
            self._after[number] = None
        taken = numbers + [self._new_number() for part in rows[len(numbers):]]
        for number, part in zip(taken, rows):
            self._after[number] = (word, part)
        return [(part[0][0], number) for number, part in zip(taken, rows)]

    def _fill_root(self, word, row):
        """Fills the root, or new blocks below it, with a row; where one block alone is below it, that is the root."""
        if len(row) > self._width:
            row = self._fill(word, row, [])
            word = "branch"
        # Of a width below 3 several such blocks may stand one below the other.
        while word == "branch" and len(row) == 1:
            below = row[0][1]
            word, row = self._after.get(below, self._blocks.get(below))
            self._after[below] = None
        self._after[0] = (word, tuple(row))

    def _new_number(self):
        """The least number from 1 on that neither a block nor a new block has."""
        number = self._newest + 1
        blocks = self._blocks
        while number in blocks:
            number += 1
        self._newest = number
        return number


def put_in(blocks, width, key, value):
    """The blocks that change where a key gets a value."""
    change = Change(blocks, width)
    change.hold(key, [(key, value)])
    return change.told()


def drop_from(blocks, width, key):
    """The blocks that change where a key goes, None where one is gone."""
    change = Change(blocks, width)
    change.hold(key, [])
    return change.told()
