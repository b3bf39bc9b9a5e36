"""Trees as texts: a row for the hands, and one for each point behind 0."""

from undotable.errors import BadNote, NoHand, NoPoint, TableError
from undotable.tree import Tree

# Python itself refuses to read thousands of figures; so many are beyond any tree and table.
FIGURES = 9


def written(tree):
    """The text that the tree is written as."""
    stands = [str(point) for point in tree.stands]
    rows = [" ".join(["hands", *stands])]
    for point in range(1, tree.many()):
        origin, hand, deed = tree.told(point)
        rows.append(f"from {origin} by {hand}: {deed_text(deed)}")
    return "\n".join(rows)


def deed_text(deed):
    """The text that a deed is written as."""
    word, cell, third = deed
    if word == "set":
        return f"set {cell} to {third}"
    return f"{word} {cell} {third}"


def read(text):
    """The tree that is written as the text."""
    rows = text.split("\n")
    ends = read_ends(rows[0])
    tree = new_tree(len(ends))
    for row in range(1, len(rows)):
        add_point(tree, rows[row], row)
    lead_hands(tree, ends)
    return tree


def read_ends(text):
    """Where the first row has the hands stand; whether there are such points only the others tell."""
    words = text.split(" ")
    if words[0] != "hands":
        raise BadNote(0)
    return [number_of(word, 0) for word in words[1:]]


def new_tree(hands):
    """A tree of so many hands."""
    try:
        return Tree(hands)
    except NoHand:
        raise BadNote(0) from None


def add_point(tree, text, row):
    """Does the deed of a row where the row tells."""
    words = text.split(" ")
    # No deed has fewer than three words.
    if len(words) < 7 or words[0] != "from" or words[2] != "by" or not words[3].endswith(":"):
        raise BadNote(row)
    origin = number_of(words[1], row)
    hand = number_of(words[3].removesuffix(":"), row)
    deed = read_deed(words[4:], row)
    try:
        tree.go(hand, origin)
        tree.do(hand, deed)
    except TableError:
        raise BadNote(row) from None


def read_deed(words, row):
    """The deed that is written as the words; whether it is let by only the tree tells."""
    word, cell, third = words[:3]
    if word == "set" and third == "to" and len(words) > 3:
        return ("set", cell, " ".join(words[3:]))
    if word == "swap" and len(words) == 3:
        return ("swap", cell, third)
    if word == "fill" and len(words) == 3:
        return ("fill", cell, number_of(third, row))
    raise BadNote(row)


def number_of(word, row):
    """The number that a word of a row is, in figures without a needless nought."""
    # Other scripts have figures, too: they are digits, but not ascii.
    if not word.isascii() or not word.isdigit():
        raise BadNote(row)
    if word[0] == "0" and word != "0":
        raise BadNote(row)
    return int(word[:FIGURES])


def lead_hands(tree, ends):
    """Leads each hand to the point where the first row has it stand."""
    for hand, point in enumerate(ends):
        try:
            tree.go(hand, point)
        except NoPoint:
            raise BadNote(0) from None
