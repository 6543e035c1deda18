"""Trimming: a book cut down to the rows that its learnt words take."""

from primer.learning import order


# One row for each learnt word is left, by an order of them: so no word is lost, and without its one row each would be.
def trimmed(book):
    places = sorted([step[1] for step in order(book)])
    return tuple([book[place] for place in places])
