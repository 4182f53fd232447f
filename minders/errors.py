"""The refusals: each stands straight under MinderError, so that one can be taken without another."""


class MinderError(ValueError):
    pass


class NoNumber(MinderError):
    pass


class BadRow(MinderError):
    # Rows are counted from one, those that are passed over too.
    def __init__(self, row):
        MinderError.__init__(self, f"row {row} is no child's row, or stands under no minder")
        self.row = row


class TooMany(MinderError):
    pass


class NoTop(MinderError):
    pass


class NoName(MinderError):
    pass


class NoLeaf(MinderError):
    pass


class NotOn(MinderError):
    pass
