"""The refusals, each of a class of its own."""


class FallError(ValueError):
    """Any refusal."""


class NoOrder(FallError):
    """What was handed in is no order."""


class NoNumber(FallError):
    """What was handed in is no whole number within its bounds."""


class NoSet(FallError):
    """What was handed in is no set of falls."""


class NoRow(FallError):
    """What was handed in is no row of the kind that is due."""


class NoLine(FallError):
    """What a desk was told is no line that it can follow."""


class NoText(FallError):
    """What was handed in writes no orders."""

    def __init__(self, row):
        self.row = row


class TooGreat(FallError):
    """There are more than the most that is told or taken."""

    def __init__(self, many, most):
        self.many = many
        self.most = most
