"""Instructions' text: writing it, and reading it as far as it is one."""

from laystones.texts import BLANK, NOUGHT, ROW_END, bytes_of, is_digit

MOST_PAGES = 256
GREATEST_LINE = 255
# The blank belongs to it: each page has a line.
PAGE_HEAD = "page "


class Instructions:
    """What a text tells: its pages, each the list of its lines; or its fault, which is None if it has none."""

    def __init__(self, pages, fault):
        self.pages = pages
        self.fault = fault


class Begun:
    """What has been read so far of a text with which some instructions' text begins.

    The whole pages; of the page that is begun how many signs of its head, and its whole lines; and the number that
    its digits so far stand for, None if there are none.
    """

    def __init__(self):
        self.pages = []
        self.head = 0
        self.lines = []
        self.number = None


def text_of_pages(pages):
    signs = []
    for lines in pages:
        signs.extend(bytes_of("page"))
        for line in lines:
            signs.extend(bytes_of(f" {line}"))
        signs.append(ROW_END)
    return signs


def greatest_begun_by(number):
    """The greatest line whose digits begin with those of the number, which is one itself."""
    # Behind a nought there's no digit, so it would stay 0 for ever.
    if number == 0:
        return 0
    least = number
    greatest = number
    while least * 10 <= GREATEST_LINE:
        least = least * 10
        greatest = greatest * 10 + 9
    return min(greatest, GREATEST_LINE)


def last_line(begun):
    """The last whole line of the page that is begun; -1, which is less than all, if it has none."""
    if len(begun.lines) == 0:
        return -1
    return begun.lines[-1]


def take_head_sign(begun, sign):
    if len(begun.pages) == MOST_PAGES or sign != ord(PAGE_HEAD[begun.head]):
        return False
    begun.head = begun.head + 1
    return True


def take_digit(begun, sign):
    number = sign - NOUGHT
    if begun.number is not None:
        number = begun.number * 10 + number
    if begun.number == 0 or number > GREATEST_LINE:
        return False
    # The number may still be too small, as long as more digits can make it great enough.
    if greatest_begun_by(number) <= last_line(begun):
        return False
    begun.number = number
    return True


def take_blank(begun):
    # Behind the greatest line none can rise.
    if begun.number == GREATEST_LINE:
        return False
    begun.lines.append(begun.number)
    begun.number = None
    return True


def take_row_end(begun):
    begun.pages.append(begun.lines + [begun.number])
    begun.head = 0
    begun.lines = []
    begun.number = None
    return True


def take_sign(begun, sign):
    """Reads one sign more; False if no instructions' text begins so."""
    if begun.head < len(PAGE_HEAD):
        return take_head_sign(begun, sign)
    if is_digit(sign):
        return take_digit(begun, sign)
    if begun.number is None or begun.number <= last_line(begun):
        return False
    if sign == BLANK:
        return take_blank(begun)
    if sign == ROW_END:
        return take_row_end(begun)
    return False


def read_instructions(text):
    begun = Begun()
    for place, sign in enumerate(text):
        if not take_sign(begun, sign):
            return Instructions([], place)
    if begun.head > 0 or len(begun.pages) == 0:
        return Instructions([], len(text))
    return Instructions(begun.pages, None)
