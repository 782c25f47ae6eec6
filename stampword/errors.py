"""The refusals of the program: StampError is any of them, each other class is one."""


class StampError(ValueError):
    pass


class NoName(StampError):
    pass


class NoStamp(StampError):
    pass


class NoPiece(StampError):
    pass
