"""What the program promises as a whole: its parts hold against one another, and of the book that a shelf has."""

import importlib
import itertools
import unittest

from helper import (all_words, is_core, is_reading, many_books, paper_shows, refused_with, slow_is_knot, slow_is_order,
                    slow_learnt, slow_suffice, slow_under)

from primer.desk import Desk
from primer.errors import TooMany
from primer.fewest import fewest
from primer.knots import is_knot, knot
from primer.laying import laid, new_names
from primer.leaning import over, rings, under
from primer.learning import is_order, learnt, order, rounds
from primer.musts import free_or_must, musts, without
from primer.pictures import apart, spared, suffice, with_pictures
from primer.prices import best_rows, prices
from primer.reader import read
from primer.readings import reading
from primer.shelf import Shelf
from primer.trimming import trimmed
from primer.writer import shown

INTERFACE = {
    "errors": ["PrimerError", "NoText", "Unfit", "Unknown", "Unlearnt", "TooMany", "Lacking", "NoRow", "NoDeed"],
    "words": ["is_word", "stem_of", "sense_of"],
    "books": ["alike", "fits", "fitted", "words_of", "lacking", "rows_of"],
    "reader": ["read"],
    "writer": ["shown"],
    "learning": ["rounds", "learnt", "order", "is_order"],
    "knots": ["knot", "is_knot"],
    "prices": ["prices", "best_rows"],
    "readings": ["reading"],
    "leaning": ["under", "over", "rings"],
    "musts": ["without", "musts", "free_or_must"],
    "pictures": ["with_pictures", "suffice", "spared", "apart"],
    "fewest": ["fewest"],
    "shelf": ["Shelf"],
    "laying": ["new_names", "laid"],
    "trimming": ["trimmed"],
    "desk": ["Desk"],
}


def answers(book):
    found = [rounds(book), learnt(book), order(book), knot(book), prices(book), best_rows(book), rings(book), apart(book),
             trimmed(book), shown(book)]
    for word in all_words(book):
        found += [under(book, word), over(book, word), without(book, word)]
    for word in learnt(book):
        found += [reading(book, word), musts(book, word)]
    return found


class InterfaceTest(unittest.TestCase):
    def test_everything_is_there_under_its_name(self):
        for module, things in INTERFACE.items():
            for thing in things:
                self.assertTrue(callable(getattr(importlib.import_module("primer." + module), thing)), (module, thing))

    def test_methods(self):
        for name in ["put", "take", "back", "book", "learnt_now", "deeds"]:
            self.assertTrue(callable(getattr(Shelf(), name)))
        self.assertTrue(callable(Desk().say))

    def test_arguments_by_their_names(self):
        book = (("ink", ()), ("pen", ("ink",)))
        self.assertEqual(read(text="ink = *\npen = ink"), book)
        self.assertEqual(shown(book=book), "ink = *\npen = ink")
        self.assertIs(is_order(book=book, steps=[("ink", 0)]), True)
        self.assertIs(is_knot(book=book, pairs=[]), True)
        self.assertEqual(reading(book=book, word="pen"), [0, 1])
        self.assertEqual(free_or_must(book=book, word="pen", other="ink")[0], "must")
        self.assertEqual(with_pictures(book=book, words=["pen"]), book + (("pen", ()),))
        self.assertIs(suffice(book=book, words=[]), True)
        self.assertEqual(spared(book=book, words=["pen"]), [])
        self.assertEqual(new_names(one=book, other=book, same=["ink"]), [("ink", "ink"), ("pen", "pen/2")])
        self.assertEqual(laid(one=book, other=book, same=["ink"]), book + (("pen/2", ("ink",)),))
        shelf = Shelf()
        self.assertEqual(shelf.put(word="ink", told=[]), (["ink"], []))
        self.assertEqual(shelf.take(word="ink", told=[]), ([], ["ink"]))
        self.assertEqual(Desk().say(text="book"), "")


class WholeTest(unittest.TestCase):
    def test_each_word_is_in_just_one_of_order_and_knot(self):
        for book in many_books(60):
            self.assertTrue(slow_is_order(book, order(book)))
            self.assertTrue(slow_is_knot(book, knot(book)))
            words = [word for word, _ in order(book)] + [word for word, _ in knot(book)]
            self.assertEqual(sorted(words), all_words(book))

    def test_each_price_is_the_length_of_a_told_reading(self):
        for book in many_books(60):
            for word, price in prices(book):
                places = reading(book, word)
                self.assertEqual(len(places), price)
                self.assertTrue(is_reading(book, word, places))

    def test_of_each_two_words_one_of_both_is_shown(self):
        for book in many_books(15):
            for word, other in itertools.permutations(all_words(book), 2):
                if word in learnt(book):
                    how, shows = free_or_must(book, word, other)
                    rest = without(book, other)
                    if how == "free":
                        self.assertTrue(slow_is_order(rest, shows))
                        self.assertEqual(shows[-1][0], word)
                    else:
                        self.assertEqual(how, "must")
                        self.assertTrue(slow_is_knot(rest, shows))
                        self.assertIn(word, dict(shows))
                    self.assertEqual(how == "must", other in musts(book, word))

    def test_the_fewest_pictures_suffice_and_the_paper_shows_that_no_fewer_do(self):
        for book in many_books(60):
            if len(knot(book)) > 5:
                refused_with(self, TooMany, fewest, book)
                continue
            words, paper = fewest(book)
            self.assertTrue(slow_suffice(book, words))
            self.assertEqual(spared(book, words), words)
            self.assertTrue(paper is None if not words else paper_shows(book, paper, [], len(words) - 1))
            for pairs in apart(book):
                self.assertTrue(is_core(book, pairs))
                self.assertTrue(set(words) & set(dict(pairs)))

    def test_behind_each_deed_all_answers_are_those_of_the_book_read_afresh(self):
        for book in many_books(15):
            shelf = Shelf()
            for word, told in book:
                gained, lost = shelf.put(word, told)
                self.assert_fresh(shelf, word, shelf.book(), gained, lost)
            for word, told in book[::2]:
                ahead = shelf.book()
                gained, lost = shelf.take(word, told)
                self.assert_fresh(shelf, word, ahead, gained, lost)
            while shelf.deeds() > 0:
                shelf.back()
                self.assert_fresh(shelf, "a", (), [], [])

    def assert_fresh(self, shelf, word, with_row, gained, lost):
        self.assertEqual(answers(shelf.book()), answers(read(shown(shelf.book()))))
        self.assertEqual(shelf.learnt_now(), slow_learnt(shelf.book()))
        for each in gained + lost:
            self.assertTrue(each == word or word in slow_under(with_row, each))

    def test_what_a_book_teaches_it_teaches_still_when_laid_together(self):
        books = [book for book in many_books(20) if len(book) <= 14]
        for one, other in zip(books, books[1:]):
            for same in [[], ["a"], ["b", "c", "d"], list("abcdefghij")]:
                book = laid(one, other, same)
                given = dict(new_names(one, other, same))
                self.assertLessEqual(set(learnt(one)), set(learnt(book)))
                self.assertLessEqual({given[word] for word in learnt(other)}, set(learnt(book)))

    def test_nothing_hangs_on_what_was_asked_before(self):
        books = many_books(6)
        first = [repr(answers(book)) for book in books]
        again = [repr(answers(book)) for book in reversed(books)]
        self.assertEqual(first, list(reversed(again)))


if __name__ == "__main__":
    unittest.main()
