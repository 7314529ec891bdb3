"""The refusals of a book."""


class TickError(ValueError):
    pass


class BadWheels(TickError):
    pass


class Past(TickError):
    pass


class NotThere(TickError):
    pass
