"""Musts: which words can be learnt without which."""

from primer.books import refuse_unknown
from primer.knots import knot
from primer.learning import learnt, order, refuse_unlearnt


def without(book, word):
    return tuple([row for row in book if row[0] != word])


# An order that ends with the word and has no step beside those it takes; [] where the word is not learnt.
def order_up_to(book, word):
    backward = []
    wanted = {word: True}
    for step in reversed(order(book)):
        if step[0] in wanted:
            backward.append(step)
            for each in book[step[1]][1]:
                wanted[each] = True
    return list(reversed(backward))


def musts(book, word):
    refuse_unknown(book, [word])
    refuse_unlearnt(book, word)
    # By this order the word is learnt without all words that stand in none of its steps.
    others = [step[0] for step in order_up_to(book, word) if step[0] != word]
    return sorted([other for other in others if word not in learnt(without(book, other))])


def free_or_must(book, word, other):
    refuse_unknown(book, [word, other])
    refuse_unlearnt(book, word)
    rest = without(book, other)
    steps = order_up_to(rest, word)
    if steps == []:
        return ("must", knot(rest))
    return ("free", steps)
