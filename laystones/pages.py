"""A line's page, and what must come off before a line, where no line stands in a ring.

`under` is, of each line, the mask of the lines that it is over.
"""

from laystones.orders import first_order
from laystones.stacks import is_in_mask, lines_reached


def pages_of_lines(under):
    """Of each line its page."""
    pages = [0] * len(under)
    # In an order the pages of all that a line is over are known before its own is asked for.
    for line in first_order(under):
        lower = [page for other, page in enumerate(pages) if is_in_mask(other, under[line])]
        pages[line] = 1 + max(lower, default=-1)
    return pages


def lines_off_before(line, under):
    """The lines that are over the line, or over one that is, and on so; rising."""
    return [other for other, mask in enumerate(lines_reached(under)) if is_in_mask(line, mask)]
