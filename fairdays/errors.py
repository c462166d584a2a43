"""The refusals of the program."""


class FairError(ValueError):
    pass


class NoRule(FairError):
    pass


class NoCount(FairError):
    pass


class NoLine(FairError):
    pass
