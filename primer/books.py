"""Books: tuples of rows (word, told), and whether they fit."""

from primer.errors import Unfit, Unknown
from primer.words import is_word

MOST_TOLD = 8
MOST_ROWS = 60


def is_row(row):
    told = row[1]
    if len(told) > MOST_TOLD or len(set(told)) < len(told):
        return False
    return is_word(row[0]) and all([is_word(word) for word in told])


def in_one_order(row):
    return (row[0], tuple(sorted(row[1])))


def alike(row, other):
    return in_one_order(row) == in_one_order(other)


def has_alike_rows(book):
    return len(set([in_one_order(row) for row in book])) < len(book)


def fits(book):
    # The bound goes first: a book of any length may be asked about.
    if len(book) > MOST_ROWS:
        return False
    return all([is_row(row) for row in book]) and not has_alike_rows(book)


def fitted(book):
    if not fits(book):
        raise Unfit("the book does not fit")
    return book


def words_of(book):
    words = []
    for row in book:
        words.append(row[0])
        words.extend(row[1])
    return sorted(set(words))


def lacking(book):
    return sorted(set(words_of(book)) - set([row[0] for row in book]))


def rows_of(book, word):
    return [place for place, row in enumerate(book) if row[0] == word]


def gathered(pairs):
    found = {}
    for key, value in pairs:
        if key not in found:
            found[key] = []
        found[key].append(value)
    return found


def refuse_unknown(book, words):
    if len(set(words) - set(words_of(book))) > 0:
        raise Unknown("the book has no such word")
