"""Trees made by hand for the tests, and a look at trees that uses nothing of the program.

A shape is a number, a leaf of so many pairs, or a list of shapes, a branch above them.
"""

STEP = 10


def tree(shape, numbers=None):
    """The blocks of a shape; the keys rise by ten from nought, the numbers go from a branch to what is below it."""
    blocks = {}
    free = iter(numbers if numbers is not None else range(1, 10 ** 6))
    lay(blocks, shape, 0, free, [0])
    return blocks


def lay(blocks, shape, number, free, count):
    if isinstance(shape, int):
        first = count[0]
        count[0] += shape
        blocks[number] = ("leaf", tuple((STEP * k, f"v{k}") for k in range(first, first + shape)))
        return STEP * first
    pairs = []
    for part in shape:
        below = next(free)
        pairs.append((lay(blocks, part, below, free, count), below))
    blocks[number] = ("branch", tuple(pairs))
    return pairs[0][0] if pairs else 0


def even(many, least, most):
    """A row of numbers from least to most that come to many together, as even as can be."""
    parts = max(1, many // most)
    while parts * most < many:
        parts += 1
    row = [many // parts + (1 if at < many % parts else 0) for at in range(parts)]
    assert sum(row) == many and (parts == 1 or min(row) >= least), (many, least, most)
    return row


def full_shape(levels, width, fan):
    """A shape of so many levels, each branch above fan others, each leaf with fan pairs."""
    return fan if levels == 1 else [full_shape(levels - 1, width, fan) for _ in range(fan)]


def half_of(width):
    return width // 2 + width % 2


def why_unsound(blocks, width):
    """What is wrong with blocks that are blocks one by one; None for a sound tree."""
    if 0 not in blocks:
        return "no root"
    named = {}
    for number, (word, pairs) in blocks.items():
        least = half_of(width) if number else (2 if word == "branch" else 0)
        if not least <= len(pairs) <= width:
            return f"block {number} has {len(pairs)} pairs"
        if any(not one[0] < other[0] for one, other in zip(pairs, pairs[1:])):
            return f"the keys of block {number} do not rise"
        if word == "branch":
            for key, below in pairs:
                if below not in blocks or below == 0 or below in named:
                    return f"block {number} names {below}"
                named[below] = number
                if not blocks[below][1] or blocks[below][1][0][0] != key:
                    return f"block {below} does not begin with {key}"
    if set(named) | {0} != set(blocks):
        return "a block that is not named"
    ways = {len(above(named, number)) for number in blocks if blocks[number][0] == "leaf"}
    if len(ways) != 1 or any(above(named, number)[-1] != 0 for number in blocks):
        return "leaves of different depth"
    keys = [key for key, value in in_order(blocks)]
    if keys != sorted(set(keys)):
        return "the keys of the leaves do not rise"
    return None


def above(named, number):
    """The numbers from a block up to the root, or up to where a circle comes round."""
    row = [number]
    while row[-1] in named and len(row) <= len(named):
        row.append(named[row[-1]])
    return row


def in_order(blocks, number=0):
    """The pairs of all leaves below a block, from the first pair of each branch to its last."""
    word, pairs = blocks[number]
    if word == "leaf":
        return list(pairs)
    return [pair for key, below in pairs for pair in in_order(blocks, below)]


def levels_of(blocks):
    word, pairs = blocks[0]
    levels = 1
    while word == "branch":
        word, pairs = blocks[pairs[0][1]]
        levels += 1
    return levels


def behind(blocks, changes):
    """The blocks behind changes, None where one is gone."""
    after = {**blocks, **changes}
    return {number: block for number, block in after.items() if block is not None}


def least_free(blocks, many):
    free = []
    number = 1
    while len(free) < many:
        if number not in blocks:
            free.append(number)
        number += 1
    return free


def orders(many):
    """Rows of the same numbers: rising, falling, and mixed in three ways that are the same each time."""
    rising = list(range(many))
    step = next(k for k in range(many // 3 + 1, 3 * many + 3) if all(k % d for d in range(2, k)) and many % k)
    mixed = [(k * step + 7) % many for k in rising]
    inward = [k // 2 if k % 2 == 0 else many - 1 - k // 2 for k in rising]
    assert sorted(mixed) == sorted(inward) == rising
    return {"rising": rising, "falling": rising[::-1], "mixed": mixed, "inward": inward, "outward": inward[::-1]}
