"""The refusals of the program, one class for each."""


class InkError(ValueError):
    pass


class NoDrawing(InkError):
    pass


class NoEnd(InkError):
    pass


class NoRing(InkError):
    pass


class NoColours(InkError):
    pass
