"""The refusals: one base, and the others each straight under it."""


class YardError(ValueError):
    pass


class NoRatio(YardError):
    pass


class TooMany(YardError):
    pass


class NoName(YardError):
    pass


class NoGood(YardError):
    pass


class NoAmount(YardError):
    pass


class NoWay(YardError):
    pass


class NoFit(YardError):
    pass


class NoBalance(YardError):
    pass


class NoWeights(YardError):
    pass


class NoWork(YardError):
    def __init__(self, name):
        YardError.__init__(self, f"no work is called {name!r}")
        self.name = name


class NoText(YardError):
    pass


class NoRow(YardError):
    pass
