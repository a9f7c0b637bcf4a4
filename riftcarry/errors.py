"""The refusals, each a class of its own."""


class RiftError(ValueError):
    pass


class NoPack(RiftError):
    pass


class NoMarks(RiftError):
    pass


class NoRiffle(RiftError):
    pass


class NoWay(RiftError):
    pass


class TooMany(RiftError):
    pass


class NoFigures(RiftError):
    pass


class NoText(RiftError):
    pass
