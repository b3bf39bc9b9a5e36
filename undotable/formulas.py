"""Contents: how they are written, how they are read, and which cells they read."""

from undotable.cells import is_cell, stretch
from undotable.errors import BadFormula

DEEPEST = 5
FIGURES = 6
# How many parts stand behind each word that has parts.
PARTS = {"add": 2, "sub": 2, "mul": 2, "pick": 4}


def is_number(text):
    """Whether a text is a number just as a number is written."""
    figures = text.removeprefix("-")
    # Other scripts have figures, too: they are digits, but not ascii.
    if not figures.isascii() or not figures.isdigit() or len(figures) > FIGURES:
        return False
    return text == "0" or figures[0] != "0"


def read(text):
    """The content that is written as the text."""
    if text == "":
        return None
    if is_number(text):
        return ("num", int(text))
    words = text.split(" ")
    if words[0] != "=":
        raise BadFormula("neither nothing nor a number, and no = ahead")
    part, behind = part_at(words, 1, 1)
    if behind < len(words):
        raise BadFormula(f"needless behind the part: {words[behind]}")
    if part[0] == "num":
        raise BadFormula("a number alone stands without =")
    return part


def part_at(words, at, depth):
    """The part that begins at a word, and where the next word behind it stands."""
    if at == len(words):
        raise BadFormula("a part is missing")
    if depth > DEEPEST:
        raise BadFormula("parts are too deep")
    word = words[at]
    if is_number(word):
        return ("num", int(word)), at + 1
    if is_cell(word):
        return ("cell", word), at + 1
    if word == "sum":
        return sum_at(words, at)
    if word in PARTS:
        return parts_at(words, at, depth)
    raise BadFormula(f"no part begins with: {word}")


def sum_at(words, at):
    """As part_at, of a sum and its two cells."""
    ends = words[at + 1:at + 3]
    if len(ends) < 2 or not is_cell(ends[0]) or not is_cell(ends[1]):
        raise BadFormula("two cells stand behind sum")
    return ("sum", ends[0], ends[1]), at + 3


def parts_at(words, at, depth):
    """As part_at, of a word and the parts behind it."""
    word = words[at]
    parts = []
    behind = at + 1
    for _ in range(PARTS[word]):
        part, behind = part_at(words, behind, depth + 1)
        parts.append(part)
    return (word, *parts), behind


def text_of(content):
    """The text that the content is written as."""
    if content is None:
        return ""
    if content[0] == "num":
        return str(content[1])
    return "= " + " ".join(words_of(content))


def words_of(part):
    """The words that a part is written as behind the =."""
    word = part[0]
    if word == "num":
        return [str(part[1])]
    if word == "cell":
        return [part[1]]
    if word == "sum":
        return list(part)
    words = [word]
    for inner in part[1:]:
        words.extend(words_of(inner))
    return words


def read_cells(content):
    """The cells that the content reads, each once, in the order in which they first stand."""
    if content is None:
        return []
    # A dict, not a set, because it keeps the order in which the cells came.
    first = {cell: True for cell in cells_of(content)}
    return list(first)


def cells_of(part):
    """The cells that a part reads, each as often as it stands in it."""
    word = part[0]
    if word == "num":
        return []
    if word == "cell":
        return [part[1]]
    if word == "sum":
        return stretch(part[1], part[2])
    cells = []
    for inner in part[1:]:
        cells.extend(cells_of(inner))
    return cells
