"""The refusals: one class for each, all of them under MendError and none under another."""


class MendError(ValueError):
    pass


class NoSigns(MendError):
    pass


class NoKey(MendError):
    pass


class NoSize(MendError):
    pass


class NoLetter(MendError):
    pass


class Beyond(MendError):
    pass


class NoCards(MendError):
    pass


class NoLines(MendError):
    pass
