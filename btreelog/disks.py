"""Disks: what a deed makes of one, and what is redone of one by its log."""


def lay(blocks, number, block):
    """Puts a block there, or takes the one there away, if any, where it is None."""
    if block is None:
        blocks.pop(number, None)
    else:
        blocks[number] = block


def done(blocks, log, deed):
    """The blocks and the log behind a deed."""
    after = dict(blocks)
    entries = list(log)
    word = deed[0]
    if word == "log":
        entries.append(deed[1])
    elif word == "write":
        lay(after, deed[1], deed[2])
    else:
        entries.clear()
    return after, entries


def redone(blocks, log):
    """The blocks with all entries of the log done to them that have a mark behind them."""
    after = dict(blocks)
    group = []
    for entry in log:
        if entry[0] == "block":
            group.append(entry)
        else:
            for word, number, block in group:
                lay(after, number, block)
            group = []
    return after
