"""The calls: each takes texts and numbers, and answers a list of numbers."""

from laystones.catalogues import is_right_catalogue, read_catalogue
from laystones.instructions import read_instructions, text_of_pages
from laystones.lines import read_lines
from laystones.orders import first_order, first_wrong_place
from laystones.pages import first_wrong_page, lines_off_before, made_pages, pages_of_lines
from laystones.rooms import owners_of_places
from laystones.stacks import is_in_mask, least_line_in_ring, least_line_without_hold, lines_under

MOST_BUILD_BYTES = 16384
MOST_INSTRUCTIONS_BYTES = 65536
MOST_ROW_NUMBERS = 256
MOST_PAGE_LINES = 256

OUT_OF_BOUNDS = -1
TOO_LONG = -2
CANNOT_BE_BUILT = -3
NO_SUCH_LINE = -4
NO_BUILD_TEXT = -5
NO_CATALOGUE_TEXT = -6
CATALOGUE_NOT_RIGHT = -8
BUILD_NOT_RIGHT = -9
NO_INSTRUCTIONS_TEXT = -10

IN_RING = 1
WITHOUT_HOLD = 2


class Reading:
    """What the two texts tell: a refusal, or 0, whose cell is at each place, and of each line those it is over."""

    def __init__(self, refusal, owners, under):
        self.refusal = refusal
        self.owners = owners
        self.under = under


def refused(refusal):
    return Reading(refusal, {}, [])


def read_build(c, b):
    # A catalogue's text isn't measured: none that is handed in is too long.
    if len(b) > MOST_BUILD_BYTES:
        return refused(TOO_LONG)
    parts = read_catalogue(c)
    if parts is None:
        return refused(NO_CATALOGUE_TEXT)
    if not is_right_catalogue(parts):
        return refused(CATALOGUE_NOT_RIGHT)
    lines = read_lines(b, parts)
    if lines is None:
        return refused(NO_BUILD_TEXT)
    owners = owners_of_places(lines)
    if owners is None:
        return refused(BUILD_NOT_RIGHT)
    return Reading(0, owners, lines_under(owners, len(lines)))


def with_line(i, build):
    """The build as it was read, but refused if there is no line i."""
    if build.refusal < 0 or i < len(build.under):
        return build
    return refused(NO_SUCH_LINE)


def with_instructions(instructions, build):
    """The build as it was read, but refused if the instructions' text is none."""
    if build.refusal < 0 or instructions.fault is None:
        return build
    return refused(NO_INSTRUCTIONS_TEXT)


def hindrance(build):
    """Why the build can't be built, and the least line of which that holds; None if it can."""
    ringed = least_line_in_ring(build.under)
    if ringed is not None:
        return [IN_RING, ringed]
    loose = least_line_without_hold(build.owners, len(build.under))
    if loose is not None:
        return [WITHOUT_HOLD, loose]
    return None


def that_can_be_built(build):
    """The build as it was read, but refused if it can't be built."""
    if build.refusal < 0 or hindrance(build) is None:
        return build
    return refused(CANNOT_BE_BUILT)


def is_page_bound(K):
    return 1 <= K <= MOST_PAGE_LINES


def over(i, j, c, b):
    build = with_line(j, with_line(i, read_build(c, b)))
    if build.refusal < 0:
        return [build.refusal]
    if is_in_mask(j, build.under[i]):
        return [1]
    return [0]


def can(c, b):
    build = read_build(c, b)
    if build.refusal < 0:
        return [build.refusal]
    found = hindrance(build)
    if found is None:
        return [0]
    return [1] + found


def order(c, b):
    build = that_can_be_built(read_build(c, b))
    if build.refusal < 0:
        return [build.refusal]
    return first_order(build.under)


def checks(c, b, o):
    if len(o) > MOST_ROW_NUMBERS:
        return [OUT_OF_BOUNDS]
    build = that_can_be_built(read_build(c, b))
    if build.refusal < 0:
        return [build.refusal]
    place = first_wrong_place(o, build.under)
    if place is None:
        return [0]
    return [1, place]


def page(i, c, b):
    build = that_can_be_built(with_line(i, read_build(c, b)))
    if build.refusal < 0:
        return [build.refusal]
    return [pages_of_lines(build.under)[i]]


def off(i, c, b):
    build = that_can_be_built(with_line(i, read_build(c, b)))
    if build.refusal < 0:
        return [build.refusal]
    return lines_off_before(i, build.under)


def make(K, c, b):
    if not is_page_bound(K):
        return [OUT_OF_BOUNDS]
    build = that_can_be_built(read_build(c, b))
    if build.refusal < 0:
        return [build.refusal]
    signs = text_of_pages(made_pages(K, build.under))
    return [len(signs)] + signs


def judge(t):
    if len(t) > MOST_INSTRUCTIONS_BYTES:
        return [TOO_LONG]
    instructions = read_instructions(t)
    if instructions.fault is not None:
        return [NO_INSTRUCTIONS_TEXT, instructions.fault]
    return [len(instructions.pages)]


def right(K, c, b, t):
    if not is_page_bound(K):
        return [OUT_OF_BOUNDS]
    if len(t) > MOST_INSTRUCTIONS_BYTES:
        return [TOO_LONG]
    instructions = read_instructions(t)
    build = that_can_be_built(with_instructions(instructions, read_build(c, b)))
    if build.refusal < 0:
        return [build.refusal]
    wrong = first_wrong_page(K, instructions.pages, build.under)
    if wrong is None:
        return [0]
    return [1] + wrong
