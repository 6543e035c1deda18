"""Leaning: which words stand under which, by any rows and any number of steps."""

from primer.books import gathered, refuse_unknown, words_of


def pairs_of(book):
    pairs = []
    for row in book:
        pairs.extend([(row[0], word) for word in row[1]])
    return pairs


def words_told_of(book):
    return gathered(pairs_of(book))


def words_that_tell(book):
    return gathered([(told, word) for word, told in pairs_of(book)])


# The word itself is reached only where a link leads back to it.
def reached(links, word):
    found = {}
    waiting = list(links.get(word, []))
    while waiting != []:
        each = waiting.pop()
        if each not in found:
            found[each] = True
            waiting.extend(links.get(each, []))
    return found


def under(book, word):
    refuse_unknown(book, [word])
    return sorted(reached(words_told_of(book), word))


def over(book, word):
    refuse_unknown(book, [word])
    return sorted(reached(words_that_tell(book), word))


def rings(book):
    links = words_told_of(book)
    below = {}
    for word in words_of(book):
        below[word] = reached(links, word)
    found = []
    for word in below:
        ring = [other for other in sorted(below[word]) if word in below[other]]
        # Each ring is told at its first word alone; so they come sorted, too.
        if ring != [] and ring[0] == word:
            found.append(ring)
    return found
