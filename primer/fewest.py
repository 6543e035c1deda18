"""The fewest words that suffice, and a paper that shows that no fewer do."""

from primer.errors import TooMany
from primer.knots import knot
from primer.learning import not_learnt
from primer.pictures import suffice, with_pictures

MOST_NOT_LEARNT = 5


def choices(words, number):
    if number == 0:
        return [[]]
    found = []
    for place, word in enumerate(words):
        for others in choices(words[place + 1:], number - 1):
            found.append([word] + others)
    return found


def fewest_words(book, words):
    number = 0
    found = []
    while found == []:
        found = [some for some in choices(words, number) if suffice(book, some)]
        number += 1
    return found[0]


# Words that suffice have one of each knot: so whatever is chosen begins, in some order, with a word of this one.
def paper(book, given, left):
    pairs = knot(with_pictures(book, given))
    if left == 0:
        return (pairs, ())
    return (pairs, tuple([(pair[0], paper(book, given + [pair[0]], left - 1)) for pair in pairs]))


def fewest(book):
    # A picture for a learnt word helps none.
    words = not_learnt(book)
    if len(words) > MOST_NOT_LEARNT:
        raise TooMany("too many words are not learnt")
    chosen = fewest_words(book, words)
    if chosen == []:
        return (chosen, None)
    return (chosen, paper(book, [], len(chosen) - 1))
