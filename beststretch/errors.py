"""The refusals: one error class for each thing that can be handed in wrongly."""


class StretchError(ValueError):
    pass


class BadRow(StretchError):
    pass


class BadLeast(StretchError):
    pass


class BadTotal(StretchError):
    pass


class BadMany(StretchError):
    pass
