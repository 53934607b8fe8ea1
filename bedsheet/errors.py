"""The refusals of the program."""


class SheetError(ValueError):
    pass


class NoSheet(SheetError):
    pass


class NoStep(SheetError):
    pass
