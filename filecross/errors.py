"""The refusals: one class for each kind of thing that cannot be."""


class FileError(ValueError):
    """Any refusal."""


class BadRule(FileError):
    """A rule whose row of this number cannot be beside those ahead of it."""

    def __init__(self, number):
        super().__init__(f"row {number} of the rule cannot be")
        self.number = number


class BadPapers(FileError):
    """Papers of which that of this number cannot be beside those ahead of it."""

    def __init__(self, number):
        super().__init__(f"paper {number} cannot be")
        self.number = number


class BadCabinet(FileError):
    """A cabinet whose drawer of this number cannot be, or is lacking."""

    def __init__(self, number):
        super().__init__(f"drawer {number} of the cabinet cannot be, or is lacking")
        self.number = number


class BadMarks(FileError):
    """What was handed in as marks is none."""


class NoPaper(FileError):
    """None of the papers has the name."""


class NoHead(FileError):
    """The rule does not have the head."""


class NotFound(FileError):
    """A paper is not found alone: the one of this name has all of its heads."""

    def __init__(self, name):
        super().__init__(f"{name} has all of the heads")
        self.name = name


class BadText(FileError):
    """A text whose row of this number is not a row of a rule."""

    def __init__(self, row):
        super().__init__(f"row {row} of the text cannot be read")
        self.row = row
