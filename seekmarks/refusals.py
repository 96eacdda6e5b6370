"""The refusals of the calls, one error class each."""


class TooLong(ValueError):
    """A text or a book has more numbers than are taken (-6)."""


class NotAsTold(ValueError):
    """What was handed in is not as the document tells it (-1)."""


class AboveLimit(ValueError):
    """A distance is above its limit (-2)."""


class BrokenRule(ValueError):
    """A book breaks a rule (-5)."""

    def __init__(self, rule, record):
        ValueError.__init__(self, rule, record)
        self.rule = rule
        self.record = record
