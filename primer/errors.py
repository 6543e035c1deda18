"""The refusals: one class for each, all right under PrimerError."""


class PrimerError(ValueError):
    pass


class NoText(PrimerError):
    pass


class Unfit(PrimerError):
    pass


class Unknown(PrimerError):
    pass


class Unlearnt(PrimerError):
    pass


class TooMany(PrimerError):
    pass


class Lacking(PrimerError):
    pass


class NoRow(PrimerError):
    pass


class NoDeed(PrimerError):
    pass
