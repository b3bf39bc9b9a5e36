"""All that the program refuses, each kind by an error of its own."""


class TableError(ValueError):
    """Any refusal."""


class NoCell(TableError):
    """A text that is no cell of the table."""


class BadFormula(TableError):
    """A text that no content is written as."""


class OffTable(TableError):
    """A deed that would go beyond the table."""


class NoPoint(TableError):
    """A number that is no point's."""


class NoHand(TableError):
    """A number that is no hand's, or no number of hands for a tree."""


class BadNote(TableError):
    """A text that no tree is written as; row is the first row that is wrong."""

    def __init__(self, row):
        super().__init__(f"no such tree by row {row}")
        self.row = row
