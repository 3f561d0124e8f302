"""The refusals: a class for each, all of them straight under LodgeError.

Where a refusal has the field at, it tells the place of what was wrong.
"""


class LodgeError(ValueError):
    pass


class NoKeys(LodgeError):
    pass


class NoKey(LodgeError):
    def __init__(self, at):
        self.at = at


class Twice(LodgeError):
    def __init__(self, at):
        self.at = at


class NoBits(LodgeError):
    def __init__(self, at):
        self.at = at


class NoEdges(LodgeError):
    def __init__(self, at):
        self.at = at


class NoTry(LodgeError):
    pass


class NoValue(LodgeError):
    def __init__(self, at):
        self.at = at


class NoRange(LodgeError):
    pass


class NoFit(LodgeError):
    def __init__(self, at):
        self.at = at


class Stuck(LodgeError):
    pass


class NoSuch(LodgeError):
    pass
