"""Desks: a shelf that is told texts and answers texts."""

from primer.books import lacking, refuse_unknown
from primer.errors import NoText
from primer.fewest import fewest
from primer.knots import knot
from primer.leaning import over, under
from primer.learning import learnt, order, refuse_unlearnt, rounds
from primer.musts import musts
from primer.prices import prices
from primer.reader import read_row
from primer.readings import reading
from primer.shelf import Shelf
from primer.words import is_word
from primer.writer import shown, shown_told

WORD_QUESTIONS = ("round", "price", "read", "under", "over", "musts", "why")


def listed(words):
    if words == []:
        return "-"
    return " ".join(words)


def shown_changes(changes):
    return " ".join(["+"] + changes[0] + ["-"] + changes[1])


def round_of(book, word):
    refuse_unlearnt(book, word)
    return [number for number, words in enumerate(rounds(book)) if word in words][0]


def price_of(book, word):
    refuse_unlearnt(book, word)
    return dict(prices(book))[word]


def words_read(book, word):
    return [book[place][0] for place in reading(book, word)]


def reason(book, word):
    # Order learns each word from words of earlier rounds, as is asked for here.
    places = dict(order(book))
    if word in places:
        return "by " + shown_told(book[places[word]][1])
    return "knot " + listed([pair[0] for pair in knot(book)])


def answer_about(book, question, word):
    if question not in WORD_QUESTIONS or not is_word(word):
        raise NoText("this is nothing that a desk is told")
    refuse_unknown(book, [word])
    if question == "round":
        return str(round_of(book, word))
    if question == "price":
        return str(price_of(book, word))
    if question == "read":
        return listed(words_read(book, word))
    if question == "under":
        return listed(under(book, word))
    if question == "over":
        return listed(over(book, word))
    if question == "musts":
        return listed(musts(book, word))
    return reason(book, word)


def answer_at_large(book, question):
    if question == "learnt":
        return listed(learnt(book))
    if question == "lacks":
        return listed(lacking(book))
    if question == "need":
        return listed(fewest(book)[0])
    if question == "book":
        return shown(book).replace("\n", ";")
    raise NoText("this is nothing that a desk is told")


class Desk:
    def __init__(self):
        self.shelf = Shelf()

    def say(self, text):
        if not isinstance(text, str) or "\n" in text:
            raise NoText("a desk is told texts without line feeds")
        if text == "back":
            return shown_changes(self.shelf.back())
        parts = text.partition(" ")
        if parts[1] == "":
            return answer_at_large(self.shelf.book(), text)
        if parts[0] == "put" or parts[0] == "take":
            return self.say_deed(parts[0], read_row(parts[2]))
        return answer_about(self.shelf.book(), parts[0], parts[2])

    def say_deed(self, deed, row):
        if deed == "put":
            return shown_changes(self.shelf.put(row[0], row[1]))
        return shown_changes(self.shelf.take(row[0], row[1]))
