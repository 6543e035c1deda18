import unittest

from helper import (all_words, chain, is_reading, many_books, names, own_answers, picture_rows, refused_with, slow_learnt,
                    slow_prices)

from primer.errors import TooMany, Unknown, Unlearnt
from primer.prices import best_rows, prices
from primer.readings import reading

BOOK = (
    ("pen", ("tube", "ink")),
    ("ink", ()),
    ("tube", ("ink", "glass")),
    ("glass", ("ink",)),
    ("river", ("water",)),
    ("pen", ("ink", "glass", "pen")),
)


def star(price):
    """A book whose word zz has this price: words are added until the dearest that fit make it up."""
    rows = [("aa", ())]
    words = names(60)[1:]
    worth = {"aa": 1}
    while True:
        left = price - 1
        chosen = []
        for word in sorted(worth, key=lambda each: -worth[each]):
            if len(chosen) < 8 and worth[word] <= left:
                chosen.append(word)
                left -= worth[word]
        if left == 0:
            return tuple(rows + [("zz", tuple(chosen))])
        told = sorted(worth, key=lambda each: -worth[each])[:2 if len(rows) % 3 else 1]
        fresh = words.pop(0)
        rows.append((fresh, tuple(told)))
        worth[fresh] = 1 + sum(worth[each] for each in told)


class PricesTest(unittest.TestCase):
    def assert_prices(self, book):
        wanted = slow_prices(book)
        self.assertEqual(prices(book), sorted(wanted.items()), book)
        self.assertEqual(sorted(wanted), slow_learnt(book))
        best = best_rows(book)
        self.assertEqual([word for word, place in best], sorted(wanted), book)
        for word, place in best:
            self.assertEqual(book[place][0], word)
            self.assertEqual(1 + sum(wanted[each] for each in book[place][1]), wanted[word], (book, word))

    def test_an_ordinary_book(self):
        self.assertEqual(prices(BOOK), [("glass", 2), ("ink", 1), ("pen", 6), ("tube", 4)])
        self.assertEqual(best_rows(BOOK), [("glass", 3), ("ink", 1), ("pen", 0), ("tube", 2)])

    def test_the_book_without_rows(self):
        self.assertEqual(prices(()), [])
        self.assertEqual(best_rows(()), [])

    def test_no_word_learnt(self):
        self.assertEqual(prices((("a", ("a",)), ("b", ("z",)))), [])
        self.assertEqual(best_rows((("a", ("a",)), ("b", ("z",)))), [])

    def test_pictures(self):
        self.assertEqual(prices((("b", ()), ("a", ()))), [("a", 1), ("b", 1)])
        self.assertEqual(best_rows((("b", ()), ("a", ()))), [("a", 1), ("b", 0)])

    def test_a_word_with_a_picture_and_other_rows(self):
        book = (("a", ("b",)), ("b", ("a",)), ("a", ()), ("b", ()), ("b", ("b",)))
        self.assertEqual(prices(book), [("a", 1), ("b", 1)])
        self.assertEqual(best_rows(book), [("a", 2), ("b", 3)])

    def test_words_told_by_several_rows_are_paid_each_time(self):
        book = (("a", ()), ("b", ("a",)), ("c", ("a", "b")), ("d", ("a", "b", "c")))
        self.assertEqual(prices(book), [("a", 1), ("b", 2), ("c", 4), ("d", 8)])

    def test_a_row_that_is_dearer_than_a_later_one(self):
        book = (("a", ()), ("b", ()), ("c", ("a", "b")), ("c", ("a",)))
        self.assertEqual(prices(book), [("a", 1), ("b", 1), ("c", 2)])
        self.assertEqual(dict(best_rows(book))["c"], 3)

    def test_a_row_that_is_cheaper_than_a_later_one(self):
        book = (("a", ()), ("b", ()), ("c", ("a",)), ("c", ("a", "b")))
        self.assertEqual(dict(prices(book))["c"], 2)
        self.assertEqual(dict(best_rows(book))["c"], 2)

    def test_a_word_learnt_early_by_a_dear_row_and_later_by_a_cheap_one(self):
        seven = picture_rows(7)
        told = tuple(word for word, _ in seven)
        book = seven + (("dear", told), ("x", ("aa",)), ("y", ("x",)), ("dear", ("y",)), ("over", ("dear", "dear/2")),
                        ("dear/2", ("dear",)))
        self.assertEqual(dict(prices(book))["dear"], 4)
        self.assertEqual(dict(best_rows(book))["dear"], 10)
        self.assertEqual(dict(prices(book))["over"], 10)
        for turned in [book, tuple(reversed(book))]:
            self.assert_prices(turned)

    def test_two_best_rows(self):
        book = (("a", ()), ("b", ()), ("c", ("a",)), ("c", ("b",)))
        self.assertEqual(dict(prices(book))["c"], 2)
        self.assertIn(dict(best_rows(book))["c"], [2, 3])

    def test_a_row_that_tells_its_own_word_is_never_the_best(self):
        book = (("c", ("c",)), ("a", ()), ("c", ("a", "c")), ("c", ("a",)))
        self.assertEqual(prices(book), [("a", 1), ("c", 2)])
        self.assertEqual(best_rows(book), [("a", 1), ("c", 3)])

    def test_rows_with_a_word_that_is_not_learnt_count_not(self):
        book = (("a", ()), ("b", ("a",)), ("c", ("z",)), ("c", ("a", "b")))
        self.assertEqual(dict(prices(book))["c"], 4)
        self.assertEqual(dict(best_rows(book))["c"], 3)

    def test_very_great_prices(self):
        for backward in [False, True]:
            for width in [1, 2, 8]:
                book = chain(60, width, backward)
                wanted = []
                for _ in range(60):
                    wanted.append(1 + sum(wanted[-width:]))
                self.assertEqual(prices(book), list(zip(names(60), wanted)))
                self.assert_prices(book)
        self.assertGreater(dict(prices(chain(60, 8)))[names(60)[-1]], 2 ** 53)

    def test_many_books(self):
        for book in many_books():
            self.assert_prices(book)

    def test_books_of_more_than_sixty_rows(self):
        book = chain(60, 8, True) + (("bh", ()), ("zz", ("bh", "ao"))) + picture_rows(40)[14:] + (("zz", ()),)
        self.assert_prices(book)

    def test_told_lists_are_the_askers_own(self):
        own_answers(self, lambda: prices(BOOK))
        own_answers(self, lambda: best_rows(BOOK))

    def test_kinds(self):
        for told in [prices(BOOK), best_rows(BOOK)]:
            self.assertIs(type(told), list)
            for pair in told:
                self.assertEqual([type(pair), type(pair[0]), type(pair[1])], [tuple, str, int])


class ReadingTest(unittest.TestCase):
    def assert_readings(self, book):
        wanted = slow_prices(book)
        for word in all_words(book):
            if word not in wanted:
                refused_with(self, Unlearnt, reading, book, word)
            elif wanted[word] > 2000:
                refused_with(self, TooMany, reading, book, word)
            else:
                places = reading(book, word)
                self.assertEqual(len(places), wanted[word], (book, word))
                self.assertTrue(is_reading(book, word, places), (book, word, places))

    def test_an_ordinary_book(self):
        self.assertEqual(reading(BOOK, "ink"), [1])
        self.assertEqual(reading(BOOK, "glass"), [1, 3])
        self.assertEqual(reading(BOOK, "tube"), [1, 1, 3, 2])
        self.assertEqual(reading(BOOK, "pen"), [1, 1, 3, 2, 1, 0])

    def test_a_reading_in_the_rows_order(self):
        book = (("a", ()), ("b", ()), ("c", ()), ("d", ("c", "a", "b")), ("e", ("b", "d", "a")))
        self.assertEqual(reading(book, "d"), [2, 0, 1, 3])
        self.assertEqual(reading(book, "e"), [1, 2, 0, 1, 3, 0, 4])

    def test_words_that_the_book_has_not(self):
        for word in ["zebra", "ink/2", "in"]:
            refused_with(self, Unknown, reading, BOOK, word)
            refused_with(self, Unknown, reading, (), word)

    def test_words_that_are_not_learnt(self):
        for word in ["river", "water"]:
            refused_with(self, Unlearnt, reading, BOOK, word)

    def test_a_price_of_2000_and_of_2001(self):
        for price in [1, 2, 1999, 2000, 2001, 2002, 4000]:
            book = star(price) if price > 1 else (("zz", ()),)
            self.assertLessEqual(len(book), 60)
            self.assertEqual(dict(prices(book))["zz"], price)
            if price > 2000:
                refused_with(self, TooMany, reading, book, "zz")
            else:
                self.assertEqual(len(reading(book, "zz")), price)
                self.assertTrue(is_reading(book, "zz", reading(book, "zz")))

    def test_too_long_readings_of_one_word_hinder_no_other(self):
        self.assert_readings(chain(60, 8))
        self.assert_readings(chain(60, 2, True))
        self.assert_readings(chain(60, 1))

    def test_a_dear_row_of_a_cheap_word(self):
        book = chain(59, 8) + (("zz", ("cg", "cf")),) + (("zz", ("aa",)),)
        self.assertEqual(reading(book, "zz"), [0, 60])

    def test_many_books(self):
        for book in many_books():
            self.assert_readings(book)

    def test_books_of_more_than_sixty_rows(self):
        self.assert_readings(chain(60, 8, True) + picture_rows(50)[20:] + (("zz", ("bh",)), ("zz", ("bh", "bg"))))

    def test_told_lists_are_the_askers_own(self):
        own_answers(self, lambda: reading(BOOK, "pen"))
        self.assertIs(type(reading(BOOK, "pen")), list)
        self.assertEqual([type(place) for place in reading(BOOK, "tube")], [int] * 4)


if __name__ == "__main__":
    unittest.main()
