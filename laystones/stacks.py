"""Which lines are over which, which have a hold, and which stand in a ring.

Many lines together are kept as one whole number, a mask, in which bit i is 1 if line i is among them:
so all the lines that one line is over are joined to those of another in one step.
"""

from laystones.parts import place_below


def mask_of(line):
    return 1 << line


def mask_of_lines(lines):
    mask = 0
    for line in lines:
        mask = mask | mask_of(line)
    return mask


def is_in_mask(line, mask):
    return (mask & mask_of(line)) != 0


def lines_under(owners, count):
    """Of each line the mask of the lines that it is over."""
    under = [0] * count
    seen = {}
    # Sorted, the places of one column come from the bottom up.
    for place in sorted(owners):
        line = owners[place]
        column = place[:2]
        below = seen.get(column, 0)
        under[line] = under[line] | below
        seen[column] = below | mask_of(line)
    return [mask & ~mask_of(line) for line, mask in enumerate(under)]


def lines_reached(under):
    """Of each line the mask of the lines to which one comes from it, going on to lines that are under."""
    reached = list(under)
    for middle in range(len(under)):
        for line in range(len(under)):
            if is_in_mask(middle, reached[line]):
                reached[line] = reached[line] | reached[middle]
    return reached


def least_line_in_ring(under):
    """The least line from which one can come back to it; None if there is none."""
    for line, mask in enumerate(lines_reached(under)):
        if is_in_mask(line, mask):
            return line
    return None


def least_line_without_hold(owners, count):
    """The least line that neither stands on the table nor lies on another; None if there is none."""
    held = [False] * count
    for place, line in owners.items():
        if place[2] == 0 or owners.get(place_below(place), line) != line:
            held[line] = True
    if False in held:
        return held.index(False)
    return None
