"""The refusals, a class for each, all under DipError and none under another one."""


class DipError(ValueError):
    pass


class BadName(DipError):
    pass


class Known(DipError):
    pass


class NoCloth(DipError):
    pass


class NoBath(DipError):
    pass


class NoShade(DipError):
    pass


class BadBook(DipError):
    pass


class BadText(DipError):
    pass


class TooLong(DipError):
    pass


class NoDay(DipError):
    pass


class Late(DipError):
    pass


class NoDip(DipError):
    pass


class Full(DipError):
    pass
