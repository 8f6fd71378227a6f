"""The refusals."""


class BoxError(ValueError):
    """Any refusal."""


class BadBook(BoxError):
    """What is handed in as a book isn't one; why tells its first wrong part."""

    def __init__(self, why):
        BoxError.__init__(self, f"this is no book: {why}")
        self.why = why


class BadPacking(BoxError):
    """A list isn't a packing of the book's things, or not a good one."""


class NoPacking(BoxError):
    """A book has no good packing; things is the first group that can't be in one box."""

    def __init__(self, things):
        BoxError.__init__(self, f"these can't be in one box, but must be: {things}")
        self.things = things


class NoBox(BoxError):
    """A packing doesn't take this box."""


class BadText(BoxError):
    """A text isn't one that is written for a book; row is the number of its first wrong row."""

    def __init__(self, row):
        BoxError.__init__(self, f"row {row} is not as a book is written")
        self.row = row
