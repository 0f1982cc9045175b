"""The refusals: one class each, all straight under JointholdError."""


class JointholdError(ValueError):
    pass


class BadNames(JointholdError):
    pass


class BadGroup(JointholdError):
    pass


class Unknown(JointholdError):
    pass


class Dead(JointholdError):
    pass


class NotGranted(JointholdError):
    pass


class GrantedBefore(JointholdError):
    pass


class NoPart(JointholdError):
    pass


class NotHeld(JointholdError):
    pass


class BadPiece(JointholdError):
    pass


class TooManyParts(JointholdError):
    pass


class TooManyDeeds(JointholdError):
    pass


class NothingDone(JointholdError):
    pass
