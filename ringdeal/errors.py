"""The refusals, one class for each."""


class RingError(ValueError):
    pass


class NoKeeper(RingError):
    pass


class KeeperThere(RingError):
    pass


class NoShare(RingError):
    pass


class NoName(RingError):
    pass


class NameThere(RingError):
    pass


class NoLine(RingError):
    pass
