"""Values: what the cells come to, and what of it a change can reach."""

from undotable.cells import stretch
from undotable.formulas import read_cells

WIDEST = 999999999
RING = ("odd", "ring")
WIDE = ("odd", "wide")


def values(contents):
    """The values of all cells that are not empty."""
    return reckoned(contents, {})


def touched(contents, changed):
    """The cells whose values may be others since some cells' contents changed, rising."""
    reads = reads_of(contents)
    return sorted([cell for cell in contents if is_touched(reads, cell, changed)])


def renewed(contents, elder, changed):
    """All values anew, from those ahead of a change of some cells' contents."""
    others = touched(contents, changed)
    known = {cell: elder[cell] for cell in contents if cell not in others}
    return reckoned(contents, known)


def reckoned(contents, known):
    """The values of all cells that are not empty, where those of some are known."""
    reads = reads_of(contents)
    worths = dict(known)
    for cell in contents:
        if cell not in worths and cell in come_to(reads, cell):
            worths[cell] = RING
    left = [cell for cell in contents if cell not in worths]
    # Each round settles a cell: without the rings, some cell waits for no other one.
    while left:
        ready = [cell for cell in left if not is_waiting(reads, cell, left)]
        for cell in ready:
            worths[cell] = worth(contents[cell], worths)
        left = [cell for cell in left if cell not in worths]
    return worths


def reads_of(contents):
    """The cells that each cell's content reads, empty ones too."""
    return {cell: read_cells(contents[cell]) for cell in contents}


def come_to(reads, cell):
    """The cells that a cell comes to by reading; itself only if it comes back."""
    found = {}
    waiting = [cell]
    while waiting:
        reader = waiting.pop()
        for inner in reads.get(reader, []):
            if inner not in found:
                found[inner] = True
                waiting.append(inner)
    return list(found)


def is_touched(reads, cell, changed):
    """Whether a cell is among the changed ones, or comes to one of them by reading."""
    if cell in changed:
        return True
    return any(inner in changed for inner in come_to(reads, cell))


def is_waiting(reads, cell, left):
    """Whether a cell reads one that is left to be reckoned."""
    return any(inner in left for inner in reads[cell])


def worth(part, worths):
    """What a part comes to by the values of the cells that it reads."""
    word = part[0]
    if word == "num":
        return part[1]
    if word == "cell":
        return worths.get(part[1], 0)
    if word == "sum":
        return summed(stretch(part[1], part[2]), worths)
    first = worth(part[1], worths)
    second = worth(part[2], worths)
    if word != "pick":
        return combined(word, first, second)
    odd = first_odd(first, second)
    if odd is not None:
        return odd
    # The part that is not chosen does not count, even if it is odd.
    return worth(part[3] if first < second else part[4], worths)


def summed(cells, worths):
    """What a sum over some cells comes to."""
    total = 0
    for cell in cells:
        # An odd total stays what it is: by it the sum has ended.
        total = combined("add", total, worths.get(cell, 0))
    return total


def combined(word, one, other):
    """What add, sub or mul makes of two values."""
    odd = first_odd(one, other)
    if odd is not None:
        return odd
    if word == "add":
        result = one + other
    elif word == "sub":
        result = one - other
    else:
        result = one * other
    return WIDE if abs(result) > WIDEST else result


def first_odd(one, other):
    """The first odd value of two, or None."""
    if is_odd(one):
        return one
    return other if is_odd(other) else None


def is_odd(value):
    """Whether a value is odd, that is no number."""
    return isinstance(value, tuple)
