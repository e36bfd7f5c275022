"""The calls: each takes texts and numbers, and answers a list of numbers."""

from laystones.catalogues import is_right_catalogue, read_catalogue
from laystones.lines import read_lines
from laystones.rooms import owners_of_places
from laystones.stacks import is_in_mask, least_line_in_ring, least_line_without_hold, lines_under

MOST_BUILD_BYTES = 16384

TOO_LONG = -2
NO_SUCH_LINE = -4
NO_BUILD_TEXT = -5
NO_CATALOGUE_TEXT = -6
CATALOGUE_NOT_RIGHT = -8
BUILD_NOT_RIGHT = -9


class Reading:
    """What the two texts tell: a refusal, or 0, how many lines there are, and whose cell is at each place."""

    def __init__(self, refusal, count, owners):
        self.refusal = refusal
        self.count = count
        self.owners = owners


def refused(refusal):
    return Reading(refusal, 0, {})


def read_build(c, b):
    # A catalogue's text isn't measured: none that is handed in is too long.
    if len(b) > MOST_BUILD_BYTES:
        return refused(TOO_LONG)
    parts = read_catalogue(c)
    if parts is None:
        return refused(NO_CATALOGUE_TEXT)
    if not is_right_catalogue(parts):
        return refused(CATALOGUE_NOT_RIGHT)
    lines = read_lines(b, parts)
    if lines is None:
        return refused(NO_BUILD_TEXT)
    owners = owners_of_places(lines)
    if owners is None:
        return refused(BUILD_NOT_RIGHT)
    return Reading(0, len(lines), owners)


def over(i, j, c, b):
    build = read_build(c, b)
    if build.refusal < 0:
        return [build.refusal]
    if i >= build.count or j >= build.count:
        return [NO_SUCH_LINE]
    under = lines_under(build.owners, build.count)
    if is_in_mask(j, under[i]):
        return [1]
    return [0]


def can(c, b):
    build = read_build(c, b)
    if build.refusal < 0:
        return [build.refusal]
    ringed = least_line_in_ring(lines_under(build.owners, build.count))
    if ringed is not None:
        return [1, 1, ringed]
    loose = least_line_without_hold(build.owners, build.count)
    if loose is not None:
        return [1, 2, loose]
    return [0]
