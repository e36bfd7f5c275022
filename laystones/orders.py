"""Orders: rows of all lines, each once, in which each line stands behind all that it is over.

`under` is, of each line, the mask of the lines that it is over.
"""

from laystones.stacks import is_in_mask, mask_of


def may_come_next(line, before, under):
    """Whether the line isn't among those of the mask before, but all that it is over are."""
    return not is_in_mask(line, before) and (under[line] & ~before) == 0


def lines_next(before, under):
    """All lines that may come behind those of the mask, rising."""
    return [line for line in range(len(under)) if may_come_next(line, before, under)]


def least_line_next(before, under):
    """The least line that may come behind those of the mask; None if none may."""
    for line in range(len(under)):
        if may_come_next(line, before, under):
            return line
    return None


def first_order(under):
    """The first order of lines that stand in no ring."""
    row = []
    before = 0
    # The least line each time is enough: without a ring no choice leaves lines that can't be put behind it.
    line = least_line_next(before, under)
    while line is not None:
        row.append(line)
        before = before | mask_of(line)
        line = least_line_next(before, under)
    return row


def first_wrong_place(row, under):
    """The first place of the row that is wrong, or its length if only lines are missing; None if it is an order."""
    before = 0
    for place, line in enumerate(row):
        # Whether there is such a line is asked first: a mask has as many bits as the number handed in says.
        if line >= len(under) or not may_come_next(line, before, under):
            return place
        before = before | mask_of(line)
    if len(row) < len(under):
        return len(row)
    return None
