"""Writing: the text of a book."""

from primer.reader import PICTURE_SIGN


def shown(book):
    return "\n".join([shown_row(row) for row in book])


def shown_row(row):
    if row[1] == ():
        return row[0] + " = " + PICTURE_SIGN
    return row[0] + " = " + " ".join(row[1])
