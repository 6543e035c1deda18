"""Pictures: what more of them would do, and knots that each ask for one."""

from primer.books import lacking, refuse_unknown, words_of
from primer.errors import Lacking
from primer.knots import knot
from primer.learning import not_learnt


def with_pictures(book, words):
    refuse_unknown(book, words)
    pictured = {}
    for row in book:
        if row[1] == ():
            pictured[row[0]] = True
    return book + tuple([(word, ()) for word in words if word not in pictured])


def suffice(book, words):
    return not_learnt(with_pictures(book, words)) == []


def spared(book, words):
    if not suffice(book, words):
        raise Lacking("these words do not suffice")
    kept = sorted(words)
    # Once is enough: a word that can't be left out of many can't be left out of fewer.
    for word in sorted(words):
        fewer = [each for each in kept if each != word]
        if suffice(book, fewer):
            kept = fewer
    return kept


# The greatest knot that has none but these words: with pictures for all others just its words are not learnt,
# and their rows are those of the book.
def knot_among(book, words):
    return knot(with_pictures(book, sorted(set(words_of(book)) - set(words))))


def core_among(book, pairs):
    core = pairs
    for word, blocks in pairs:
        fewer = knot_among(book, [pair[0] for pair in core if pair[0] != word])
        if fewer != []:
            core = fewer
    return core


def apart(book):
    # A word that lacks is a core by itself, so these need no search.
    given = lacking(book)
    cores = [[(word, ())] for word in given]
    rest = knot(with_pictures(book, given))
    while rest != []:
        core = core_among(book, rest)
        cores.append(core)
        given.extend([pair[0] for pair in core])
        rest = knot(with_pictures(book, given))
    return cores
