"""A line's page, what must come off before a line, and the pages of instructions, where no line stands in a ring.

`under` is, of each line, the mask of the lines that it is over.
"""

from laystones.orders import first_order, lines_next
from laystones.stacks import is_in_mask, lines_reached, mask_of_lines


def pages_of_lines(under):
    """Of each line its page."""
    pages = [0] * len(under)
    # In an order the pages of all that a line is over are known before its own is asked for.
    for line in first_order(under):
        lower = [page for other, page in enumerate(pages) if is_in_mask(other, under[line])]
        pages[line] = 1 + max(lower, default=-1)
    return pages


def lines_off_before(line, under):
    """The lines that are over the line, or over one that is, and on so; rising."""
    return [other for other, mask in enumerate(lines_reached(under)) if is_in_mask(line, mask)]


def chains_above(under):
    """Of each line how many lines the longest chain over it has."""
    chains = [0] * len(under)
    # From an order's end the chains of all that is over a line are known before its own is asked for.
    for line in reversed(first_order(under)):
        upper = [chain for other, chain in enumerate(chains) if is_in_mask(line, under[other])]
        chains[line] = 1 + max(upper, default=-1)
    return chains


def made_pages(most, under):
    """The pages of the instructions made by most lines a page."""
    chains = chains_above(under)
    pages = []
    before = 0
    ready = lines_next(before, under)
    while len(ready) > 0:
        chosen = sorted(ready, key=lambda line: (-chains[line], line))[:most]
        pages.append(sorted(chosen))
        before = before | mask_of_lines(chosen)
        ready = lines_next(before, under)
    return pages
