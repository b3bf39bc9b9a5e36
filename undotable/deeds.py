"""Deeds: which cells they use, what they change, and what is refused."""

from undotable.cells import is_cell, shifted
from undotable.errors import NoCell, OffTable
from undotable.formulas import read


def uses(deed):
    """The cells that the deed replaces or copies."""
    check(deed)
    word, cell, third = deed
    if word == "set":
        return [cell]
    if word == "swap":
        return [cell, third]
    return [shifted(cell, rows) for rows in range(third + 1)]


def changes(contents, deed):
    """Rows (cell, elder content, newer one), by cells, of all that the deed changes."""
    newer = newer_contents(contents, deed)
    return [
        (cell, contents.get(cell), newer[cell])
        for cell in sorted(newer)
        if contents.get(cell) != newer[cell]
    ]


def done(contents, deed):
    """The contents behind the deed."""
    return replaced(contents, newer_contents(contents, deed))


def check(deed):
    """Refuses a deed that is refused whatever the table's contents are."""
    word, cell, third = deed
    if not is_cell(cell):
        raise NoCell(f"no cell: {cell}")
    if word == "set":
        # Only for its refusal: the content itself is read again where it is put.
        read(third)
    elif word == "swap":
        if not is_cell(third):
            raise NoCell(f"no cell: {third}")
    elif third < 1 or shifted(cell, third) == "":
        raise OffTable(f"no {third} cells to fill below {cell}")


def newer_contents(contents, deed):
    """What the deed puts into each cell that it replaces: a dict, None for nothing."""
    check(deed)
    word, cell, third = deed
    if word == "set":
        return {cell: read(third)}
    if word == "swap":
        return {cell: contents.get(third), third: contents.get(cell)}
    copied = contents.get(cell)
    return {shifted(cell, rows): lowered(copied, rows) for rows in range(1, third + 1)}


def lowered(content, rows):
    """The content with each cell in it so many rows further down."""
    if content is None or content[0] == "num":
        return content
    word = content[0]
    if word in ("cell", "sum"):
        inner = [lower_cell(cell, rows) for cell in content[1:]]
    else:
        inner = [lowered(part, rows) for part in content[1:]]
    return (word, *inner)


def lower_cell(cell, rows):
    """The cell so many rows further down, where the table has it."""
    lower = shifted(cell, rows)
    if lower == "":
        raise OffTable(f"no cell {rows} rows below {cell}")
    return lower


def replaced(contents, newer):
    """The contents where some cells have newer ones: a dict, None for nothing."""
    merged = {**contents, **newer}
    # Contents are without empty cells.
    return {cell: merged[cell] for cell in merged if merged[cell] is not None}
