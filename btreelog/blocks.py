"""Keys, values and blocks: what they are, and how a row of pairs is searched and parted."""

KEY_BOUND = 10 ** 60
MOST_SIGNS = 60


def is_whole(thing):
    """Whether anything is a whole number."""
    # The exact kind leaves out True and False, and no foreign object gets to answer for itself.
    return type(thing) is int


def is_key(thing):
    """Whether anything is a key."""
    return is_whole(thing) and -KEY_BOUND < thing < KEY_BOUND


def is_value(thing):
    """Whether anything is a value."""
    if type(thing) is not str or len(thing) > MOST_SIGNS:
        return False
    return all([" " <= sign <= "~" for sign in thing])


def is_number(thing):
    """Whether anything is the number of a block below another one."""
    # Block 0 is the root, which stands below none.
    return is_whole(thing) and thing >= 1


def half(width):
    """Half of a width, rounded up."""
    return (width + 1) // 2


def place(pairs, key):
    """The place of the last pair whose key is no greater; nought where there is none."""
    for at in reversed(range(len(pairs))):
        if pairs[at][0] <= key:
            return at
    return 0


def parts(pairs, width):
    """The list of the one or two parts, each a tuple, into which a row of pairs falls."""
    if len(pairs) <= width:
        return [tuple(pairs)]
    middle = len(pairs) // 2
    return [tuple(pairs[:middle]), tuple(pairs[middle:])]


def is_two(thing):
    """Whether anything is a tuple of two."""
    return type(thing) is tuple and len(thing) == 2


def is_pair(thing, word):
    """Whether anything is a pair as it stands in a block of this word."""
    if not is_two(thing):
        return False
    key, held = thing
    if word == "leaf":
        return is_key(key) and is_value(held)
    return is_key(key) and is_number(held)


def rises(pairs):
    """Whether the keys of the pairs rise, none standing twice."""
    return all([pairs[at][0] < pairs[at + 1][0] for at in range(len(pairs) - 1)])


def is_block(thing, least, most):
    """Whether anything is a leaf or a branch of least to most pairs."""
    if not is_two(thing):
        return False
    word, pairs = thing
    if type(word) is not str or word not in ("leaf", "branch"):
        return False
    if type(pairs) is not tuple or not least <= len(pairs) <= most:
        return False
    # The keys are compared only where all of them are known to be numbers.
    return all([is_pair(pair, word) for pair in pairs]) and rises(pairs)
