"""The refusals: one class for each, all below SumError."""


class SumError(ValueError):
    pass


class BadNet(SumError):
    pass


class BadRow(SumError):
    pass


class BadKind(SumError):
    pass


class Wrong(SumError):
    pass


class BadText(SumError):
    pass
