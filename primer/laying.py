"""Laying: two books made one, and the names that the other one's words have in it."""

from primer.books import MOST_ROWS, alike, words_of
from primer.errors import TooMany
from primer.words import FIRST_SENSE, LAST_SENSE, stem_of


def free_name(stem, taken):
    for number in range(FIRST_SENSE + 1, LAST_SENSE + 1):
        name = f"{stem}/{number}"
        if name not in taken:
            return name
    raise TooMany(f"no number is left for the stem {stem}")


def new_names(one, other, same):
    of_one = words_of(one)
    of_other = words_of(other)
    taken = {}
    for word in of_one + of_other:
        taken[word] = True
    names = []
    for word in of_other:
        name = word
        if word in of_one and word not in same:
            name = free_name(stem_of(word), taken)
            taken[name] = True
        names.append((word, name))
    return names


def renamed(row, names):
    return (names[row[0]], tuple([names[word] for word in row[1]]))


def laid(one, other, same):
    names = dict(new_names(one, other, same))
    rows = list(one)
    for row in other:
        new_row = renamed(row, names)
        if not any([alike(standing, new_row) for standing in rows]):
            rows.append(new_row)
    if len(rows) > MOST_ROWS:
        raise TooMany("the books have too many rows together")
    return tuple(rows)
