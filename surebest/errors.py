"""The refusals: one class for each, all below BestError."""


class BestError(ValueError):
    pass


class NoNetwork(BestError):
    pass


class NoTable(BestError):
    pass


class NoRatio(BestError):
    pass


class NoWay(BestError):
    pass
