"""Reading texts, which are lists of bytes: their rows, words, names and numbers."""

ROW_END = 10
BLANK = 32
NOUGHT = 48
NINE = 57
LOWER_A = 97
LOWER_Z = 122


def bytes_of(letters):
    return tuple([ord(letter) for letter in letters])


def pieces_between(signs, divider):
    """The pieces that the dividers part, empty ones too: one more than there are dividers."""
    pieces = []
    piece = []
    for sign in signs:
        if sign == divider:
            pieces.append(tuple(piece))
            piece = []
        else:
            piece.append(sign)
    pieces.append(tuple(piece))
    return pieces


def rows_of(text):
    """The rows of a text, without their ends; None if the last one has no end."""
    pieces = pieces_between(text, ROW_END)
    if len(pieces[-1]) > 0:
        return None
    return pieces[:-1]


def words_of(row):
    return pieces_between(row, BLANK)


def is_letter(sign):
    return LOWER_A <= sign <= LOWER_Z


def is_digit(sign):
    return NOUGHT <= sign <= NINE


def is_name(signs, longest):
    if len(signs) < 1 or len(signs) > longest:
        return False
    if not is_letter(signs[0]):
        return False
    return all([is_letter(sign) or is_digit(sign) for sign in signs])


def number_of(signs, least, most):
    """The number written in tens without needless noughts; None if it is none from least to most."""
    if len(signs) == 0:
        return None
    if signs[0] == NOUGHT and len(signs) > 1:
        return None
    number = 0
    for sign in signs:
        if not is_digit(sign):
            return None
        number = number * 10 + sign - NOUGHT
        # Left at once: the digits may go on as long as the text, and so would the number.
        if number > most:
            return None
    if number < least:
        return None
    return number
