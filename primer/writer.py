"""Writing: the text of a book."""

from primer.reader import PICTURE_SIGN


def shown(book):
    return "\n".join([row[0] + " = " + shown_told(row[1]) for row in book])


def shown_told(told):
    if told == ():
        return PICTURE_SIGN
    return " ".join(told)
