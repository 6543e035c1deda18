"""Shelves: a book into which rows are put and out of which they are taken, deed by deed."""

from primer.books import MOST_ROWS, alike, is_row
from primer.errors import NoDeed, NoRow, TooMany, Unfit
from primer.learning import learnt


def places_alike(book, row):
    return [place for place, standing in enumerate(book) if alike(standing, row)]


def gained_and_lost(ahead, behind):
    known = learnt(ahead)
    known_then = learnt(behind)
    gained = [word for word in known_then if word not in known]
    lost = [word for word in known if word not in known_then]
    return (gained, lost)


class Shelf:
    def __init__(self):
        self.rows = ()
        # The books ahead of the deeds, so that rows come back to their very places.
        self.earlier = []

    def book(self):
        return self.rows

    def learnt_now(self):
        return learnt(self.rows)

    def deeds(self):
        return len(self.earlier)

    def put(self, word, told):
        row = (word, tuple(told))
        if not is_row(row) or places_alike(self.rows, row) != []:
            raise Unfit("this is no row, or one alike to it stands there")
        if len(self.rows) >= MOST_ROWS:
            raise TooMany("no more rows can be put in")
        return self.do_deed(self.rows + (row,))

    def take(self, word, told):
        places = places_alike(self.rows, (word, tuple(told)))
        if places == []:
            raise NoRow("no row alike to this one stands there")
        return self.do_deed(self.rows[:places[0]] + self.rows[places[0] + 1:])

    def back(self):
        if self.earlier == []:
            raise NoDeed("no deed is left")
        return self.turn_to(self.earlier.pop())

    def do_deed(self, rows):
        self.earlier.append(self.rows)
        return self.turn_to(rows)

    def turn_to(self, rows):
        changes = gained_and_lost(self.rows, rows)
        self.rows = rows
        return changes
