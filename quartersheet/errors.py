"""The refusals, each a class of its own."""


class SheetError(ValueError):
    pass


class NoLevel(SheetError):
    pass


class NoCode(SheetError):
    pass


class NoColour(SheetError):
    pass


class NoPlace(SheetError):
    pass


class NoSide(SheetError):
    pass


class NoLeaf(SheetError):
    pass


class Twice(SheetError):
    pass


class Gap(SheetError):
    pass


class NoText(SheetError):
    pass


class NoName(SheetError):
    pass


class NoNumber(SheetError):
    pass


class NoRow(SheetError):
    pass
