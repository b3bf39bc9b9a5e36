"""Cells: texts of a column and a row."""

from undotable.errors import NoCell

COLUMNS = "abcdef"
ROWS = "123456789"


def is_cell(text):
    """Whether a text is a cell."""
    # Without the length, an empty or a longer text would be found in the signs, too.
    return len(text) == 2 and text[0] in COLUMNS and text[1] in ROWS


def place(cell):
    """The column and the row of a cell, both counted from 0."""
    if not is_cell(cell):
        raise NoCell(f"no cell: {cell}")
    return COLUMNS.index(cell[0]), ROWS.index(cell[1])


def stretch(one, other):
    """All cells from one corner to the other, row by row, rows and columns rising."""
    left, top = place(one)
    right, bottom = place(other)
    columns = COLUMNS[min(left, right):max(left, right) + 1]
    rows = ROWS[min(top, bottom):max(top, bottom) + 1]
    return [column + row for row in rows for column in columns]


def shifted(cell, rows):
    """The cell so many rows further down, or the empty text beyond the table."""
    _, row = place(cell)
    lower = row + rows
    # A row below 0 would be counted from the table's other end.
    if lower < 0 or lower >= len(ROWS):
        return ""
    return cell[0] + ROWS[lower]
