"""The refusals, each an error of its own."""


class OutOfRange(ValueError):
    pass


class WrongFont(ValueError):
    def __init__(self, number, row):
        ValueError.__init__(self, number, row)
        self.number = number
        self.row = row


class NoSuchPlace(ValueError):
    pass


class TooManyLines(ValueError):
    pass
