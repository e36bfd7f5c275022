"""A catalogue: reading its text, and whether it is right."""

from laystones.parts import NO_CELL, Part, is_place_sign, is_right_part
from laystones.texts import bytes_of, is_name, number_of, rows_of, words_of

MOST_PARTS = 64
LONGEST_NAME = 8
MOST_WIDTH = 16
MOST_DEPTH = 16
MOST_HEIGHT = 18
MOST_WEIGHT = 9999


def read_head(row):
    """The part that a first row tells, still without its cells; None if the row tells none."""
    words = words_of(row)
    if len(words) != 6 or words[0] != bytes_of("part"):
        return None
    if not is_name(words[1], LONGEST_NAME):
        return None
    width = number_of(words[2], 1, MOST_WIDTH)
    depth = number_of(words[3], 1, MOST_DEPTH)
    height = number_of(words[4], 1, MOST_HEIGHT)
    # No call asks for the weight, but without one the text is no catalogue's.
    weight = number_of(words[5], 1, MOST_WEIGHT)
    if width is None or depth is None or height is None or weight is None:
        return None
    return Part(words[1], width, depth, height, {})


def read_cells(rows, width, depth):
    """The cells in the rows of a part's layers; None if a row is none of such a part."""
    cells = {}
    for number, row in enumerate(rows):
        if len(row) != width:
            return None
        for x, sign in enumerate(row):
            if not is_place_sign(sign):
                return None
            if sign != NO_CELL:
                cells[(x, number % depth, number // depth)] = sign
    return cells


def read_part(rows, first):
    """The part whose text begins at that row; None if none does."""
    head = read_head(rows[first])
    if head is None:
        return None
    size = head.depth * head.height
    layers = rows[first + 1:first + 1 + size]
    if len(layers) < size:
        return None
    cells = read_cells(layers, head.width, head.depth)
    if cells is None:
        return None
    return Part(head.name, head.width, head.depth, head.height, cells)


def read_catalogue(text):
    """The parts of a catalogue's text, right or not; None if it is no catalogue's."""
    rows = rows_of(text)
    if rows is None:
        return None
    parts = []
    first = 0
    while first < len(rows):
        part = read_part(rows, first)
        if part is None or len(parts) == MOST_PARTS:
            return None
        parts.append(part)
        first = first + 1 + part.depth * part.height
    if len(parts) == 0:
        return None
    return parts


def names_rise(parts):
    for number in range(1, len(parts)):
        # Tuples of bytes compare as the document says of names: the beginning of another is the lesser.
        if not parts[number - 1].name < parts[number].name:
            return False
    return True


def is_right_catalogue(parts):
    return all([is_right_part(part) for part in parts]) and names_rise(parts)
