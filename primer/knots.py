"""Knots: words none of which can be learnt, as each of their rows tells one of them."""

from primer.books import rows_of, words_of
from primer.learning import not_learnt


def knot(book):
    blocks = {}
    for word in not_learnt(book):
        blocks[word] = []
    for row in book:
        if row[0] in blocks:
            # There is one: by a row that told learnt words alone its word would be learnt.
            blocks[row[0]].append([word for word in row[1] if word in blocks][0])
    return [(word, tuple(held)) for word, held in blocks.items()]


def is_blocked(book, pair, inside):
    places = rows_of(book, pair[0])
    if len(pair[1]) != len(places):
        return False
    return all([block in book[place][1] and block in inside for place, block in zip(places, pair[1])])


def is_knot(book, pairs):
    words = [pair[0] for pair in pairs]
    if words != sorted(set(words)) or len(set(words) - set(words_of(book))) > 0:
        return False
    return all([is_blocked(book, pair, words) for pair in pairs])
