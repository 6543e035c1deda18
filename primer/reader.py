"""Reading: the book of a text."""

from primer.books import fitted
from primer.errors import NoText
from primer.words import is_word

PICTURE_SIGN = "*"


def read(text):
    if not isinstance(text, str):
        raise NoText("what is handed in is no text")
    if text == "":
        return ()
    return fitted(tuple([read_row(line) for line in text.split("\n")]))


def read_row(line):
    parts = line.split(" ")
    if len(parts) < 3 or not is_word(parts[0]) or parts[1] != "=":
        raise NoText("a row begins with a word and =, and tells something")
    return (parts[0], read_told(parts[2:]))


def read_told(parts):
    if parts == [PICTURE_SIGN]:
        return ()
    if not all([is_word(part) for part in parts]):
        raise NoText("a row tells words, or * alone")
    return tuple(parts)
