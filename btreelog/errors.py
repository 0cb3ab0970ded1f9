"""What the store refuses with."""


class StoreError(ValueError):
    """Any refusal."""


class BadWidth(StoreError):
    """What was handed in as a width is none."""


class BadRoom(StoreError):
    """What was handed in as a room is none."""


class BadKey(StoreError):
    """What was handed in as a key is none."""


class BadValue(StoreError):
    """What was handed in as a value is none."""


class NotThere(StoreError):
    """The key is not held."""


class Broken(StoreError):
    """The blocks of a disk are no sound tree."""
