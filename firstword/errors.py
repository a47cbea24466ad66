"""The refusals of Firstword."""


class ThrowError(ValueError):
    pass


class BadSides(ThrowError):
    pass


class BadWord(ThrowError):
    pass


class BadThrows(ThrowError):
    pass


class BadMany(ThrowError):
    pass


class Within(ThrowError):
    pass
