"""The refusals of the calls, one error class each."""


class TooLong(ValueError):
    """A text, a book or a row of differences has more numbers than are taken (-6)."""


class NotAsTold(ValueError):
    """What was handed in is not as the document tells it (-1)."""


class AboveLimit(ValueError):
    """A distance is above its limit (-2)."""


class BrokenRule(ValueError):
    """A book breaks a rule in a record, or a row of differences in a change (-5)."""

    def __init__(self, rule, record):
        ValueError.__init__(self, rule, record)
        self.rule = rule
        self.record = record
