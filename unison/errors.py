"""The refusals, one class for each."""


class RidgeError(ValueError):
    pass


class BadRidge(RidgeError):
    pass


class BadClimb(RidgeError):
    pass


class BadRange(RidgeError):
    pass


class BadPlaces(RidgeError):
    pass


class BadMoves(RidgeError):
    pass


class Unlike(RidgeError):
    pass
