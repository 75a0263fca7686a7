"""The refusals, one class for each."""


# Stands over all the others, so that one name takes any refusal.
class AskError(ValueError):
    pass


class NoQuestion(AskError):
    pass


class NoTable(AskError):
    pass


class NoColumn(AskError):
    pass


class TwoColumns(AskError):
    pass


class NotAlike(AskError):
    pass
