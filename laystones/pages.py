"""A line's page, what must come off before a line, and the pages of instructions: made, and checked.

`under` is, of each line, the mask of the lines that it is over; no line stands in a ring.
"""

from laystones.orders import first_order, lines_next, may_come_next
from laystones.stacks import is_in_mask, lines_reached, mask_of_lines

TOO_MANY_LINES = 1
NOT_THERE_OR_AGAIN = 2
TOO_EARLY = 3
IN_NO_PAGE = 4


def pages_of_lines(under):
    """Of each line its page."""
    pages = [0] * len(under)
    # In an order the pages of all that a line is over are known before its own is asked for.
    for line in first_order(under):
        lower = [page for other, page in enumerate(pages) if is_in_mask(other, under[line])]
        pages[line] = 1 + max(lower, default=-1)
    return pages


def lines_off_before(line, under):
    """The lines that are over the line, or over one that is, and on so; rising."""
    return [other for other, mask in enumerate(lines_reached(under)) if is_in_mask(line, mask)]


def chains_above(under):
    """Of each line how many lines the longest chain over it has."""
    chains = [0] * len(under)
    # From an order's end the chains of all that is over a line are known before its own is asked for.
    for line in reversed(first_order(under)):
        upper = [chain for other, chain in enumerate(chains) if is_in_mask(line, under[other])]
        chains[line] = 1 + max(upper, default=-1)
    return chains


def made_pages(most, under):
    """The pages of the instructions made by most lines a page."""
    chains = chains_above(under)
    pages = []
    before = 0
    ready = lines_next(before, under)
    while len(ready) > 0:
        chosen = sorted(ready, key=lambda line: (-chains[line], line))[:most]
        pages.append(sorted(chosen))
        before = before | mask_of_lines(chosen)
        ready = lines_next(before, under)
    return pages


def wrong_on_page(most, lines, before, under):
    """What is wrong with a page behind the lines of the mask, and the line; None if nothing is."""
    if len(lines) > most:
        return [TOO_MANY_LINES, len(lines)]
    # The lines of a page rise, so the first one found is the least.
    for line in lines:
        if line >= len(under) or is_in_mask(line, before):
            return [NOT_THERE_OR_AGAIN, line]
    for line in lines:
        if not may_come_next(line, before, under):
            return [TOO_EARLY, line]
    return None


def first_wrong_page(most, pages, under):
    """What is wrong with the instructions, the page, and the line; None if they are right."""
    before = 0
    for number, lines in enumerate(pages):
        wrong = wrong_on_page(most, lines, before, under)
        if wrong is not None:
            return [wrong[0], number, wrong[1]]
        before = before | mask_of_lines(lines)
    for line in range(len(under)):
        if not is_in_mask(line, before):
            return [IN_NO_PAGE, len(pages), line]
    return None
