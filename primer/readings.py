"""Readings: the rows that are gone through to learn a word, each time anew."""

from primer.books import refuse_unknown
from primer.errors import TooMany
from primer.learning import refuse_unlearnt
from primer.prices import best_rows, prices

DEAREST_READ = 2000


def reading(book, word):
    refuse_unknown(book, [word])
    refuse_unlearnt(book, word)
    if dict(prices(book))[word] > DEAREST_READ:
        raise TooMany(f"the shortest readings of {word} are too long")
    places = dict(best_rows(book))
    # From its end to its beginning: a row stands behind the readings of its words, the last one's nearest to it.
    backward = []
    waiting = [word]
    while waiting != []:
        place = places[waiting.pop()]
        backward.append(place)
        waiting.extend(book[place][1])
    return list(reversed(backward))
