"""The refusals: each has a class of its own, and all stand under MapError."""


class MapError(ValueError):
    pass


class NoPlace(MapError):
    pass


class OnePlace(MapError):
    pass


class Stands(MapError):
    pass


class NoBridge(MapError):
    pass
