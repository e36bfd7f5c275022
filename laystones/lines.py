"""The lines of a build: reading them from its text."""

from laystones.texts import bytes_of, is_name, number_of, rows_of, words_of

MOST_LINES = 256
LONGEST_NAME = 16
MOST_COLOUR = 255
MOST_TURNS = 3
ROOM_WIDTH = 64
ROOM_DEPTH = 64
ROOM_HEIGHT = 96


class Line:
    def __init__(self, part, x, y, z, turns):
        self.part = part
        self.x = x
        self.y = y
        self.z = z
        self.turns = turns


def is_build_head(row):
    words = words_of(row)
    return len(words) == 2 and words[0] == bytes_of("build") and is_name(words[1], LONGEST_NAME)


def read_line(row, parts_by_name):
    """The line that the row tells; None if it tells none."""
    words = words_of(row)
    if len(words) != 7 or words[0] != bytes_of("put"):
        return None
    part = parts_by_name.get(words[1])
    # No call asks for the colour, but without one the text is no build's.
    colour = number_of(words[2], 0, MOST_COLOUR)
    x = number_of(words[3], 0, ROOM_WIDTH - 1)
    y = number_of(words[4], 0, ROOM_DEPTH - 1)
    z = number_of(words[5], 0, ROOM_HEIGHT - 1)
    turns = number_of(words[6], 0, MOST_TURNS)
    if part is None or colour is None or x is None or y is None or z is None or turns is None:
        return None
    return Line(part, x, y, z, turns)


def read_lines(text, parts):
    """The lines of a build's text, right or not; None if it is no build's of a catalogue with these parts."""
    rows = rows_of(text)
    if rows is None or len(rows) == 0 or len(rows) > 1 + MOST_LINES:
        return None
    if not is_build_head(rows[0]):
        return None
    parts_by_name = {}
    for part in parts:
        parts_by_name[part.name] = part
    lines = [read_line(row, parts_by_name) for row in rows[1:]]
    if any([line is None for line in lines]):
        return None
    return lines
