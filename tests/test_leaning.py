import unittest

from helper import all_words, chain, many_books, names, own_answers, picture_rows, refused_with, slow_under

from primer.errors import Unknown
from primer.leaning import over, rings, under

BOOK = (
    ("ink", ()),
    ("pen", ("ink", "tube")),
    ("tube", ("glass",)),
    ("glass", ("sand", "ink")),
    ("glass", ("tube",)),
    ("sand", ("sand",)),
    ("pen", ("quill",)),
)


class UnderOverTest(unittest.TestCase):
    def assert_leaning(self, book):
        words = all_words(book)
        below = {word: slow_under(book, word) for word in words}
        for word in words:
            self.assertEqual(under(book, word), below[word], (book, word))
            self.assertEqual(over(book, word), [other for other in words if word in below[other]], (book, word))

    def test_an_ordinary_book(self):
        self.assertEqual(under(BOOK, "pen"), ["glass", "ink", "quill", "sand", "tube"])
        self.assertEqual(under(BOOK, "tube"), ["glass", "ink", "sand", "tube"])
        self.assertEqual(over(BOOK, "ink"), ["glass", "pen", "tube"])
        self.assertEqual(over(BOOK, "quill"), ["pen"])

    def test_a_picture_and_a_word_that_lacks_lean_on_none(self):
        self.assertEqual(under(BOOK, "ink"), [])
        self.assertEqual(under(BOOK, "quill"), [])

    def test_a_word_on_which_none_leans(self):
        self.assertEqual(over(BOOK, "pen"), [])
        self.assertEqual(over((("a", ()),), "a"), [])

    def test_a_word_leans_on_itself_by_one_row(self):
        self.assertEqual(under(BOOK, "sand"), ["sand"])
        self.assertEqual(over(BOOK, "sand"), ["glass", "pen", "sand", "tube"])

    def test_a_word_leans_on_itself_by_many_rows(self):
        words = names(60)
        book = tuple((word, (words[k - 1],)) for k, word in enumerate(words))
        for word in words:
            self.assertEqual(under(book, word), words)
            self.assertEqual(over(book, word), words)

    def test_learnt_or_not_makes_no_difference(self):
        book = (("a", ()), ("a", ("b",)), ("b", ("z",)))
        self.assertEqual(under(book, "a"), ["b", "z"])
        self.assertEqual(over(book, "z"), ["a", "b"])

    def test_words_that_the_book_has_not(self):
        for ask in [under, over]:
            for word in ["zebra", "ink/2"]:
                refused_with(self, Unknown, ask, BOOK, word)
                refused_with(self, Unknown, ask, (), word)

    def test_chains(self):
        for backward in [False, True]:
            book = chain(60, 8, backward)
            for k, word in enumerate(names(60)):
                self.assertEqual(under(book, word), names(60)[:k])
                self.assertEqual(over(book, word), names(60)[k + 1:])

    def test_many_books(self):
        for book in many_books():
            self.assert_leaning(book)

    def test_books_of_more_than_sixty_rows(self):
        self.assert_leaning(chain(60, 3, True) + (("aa", ("bh",)),) + picture_rows(80)[1:])

    def test_told_lists_are_the_askers_own(self):
        own_answers(self, lambda: under(BOOK, "pen"))
        own_answers(self, lambda: over(BOOK, "ink"))
        self.assertEqual([type(under(BOOK, "pen")), type(over(BOOK, "ink"))], [list, list])


class RingsTest(unittest.TestCase):
    def assert_rings(self, book):
        words = all_words(book)
        below = {word: slow_under(book, word) for word in words}
        wanted = []
        for word in words:
            ring = [other for other in words if other in below[word] and word in below[other]]
            if ring and ring not in wanted:
                wanted.append(ring)
        self.assertEqual(rings(book), sorted(wanted), book)
        self.assertEqual(sorted(word for ring in rings(book) for word in ring),
                         [word for word in words if word in below[word]])

    def test_an_ordinary_book(self):
        self.assertEqual(rings(BOOK), [["glass", "tube"], ["sand"]])

    def test_the_book_without_rows(self):
        self.assertEqual(rings(()), [])

    def test_words_in_no_ring(self):
        self.assertEqual(rings((("a", ("b",)), ("b", ()), ("c", ("a", "z")))), [])
        self.assertEqual(rings(chain(60, 8)), [])

    def test_a_word_by_itself(self):
        self.assertEqual(rings((("b", ("b",)), ("a", ("b",)))), [["b"]])
        self.assertEqual(rings((("b", ("b",)), ("a", ("a", "b")))), [["a"], ["b"]])

    def test_two_rings_that_one_word_joins(self):
        book = (("a", ("b",)), ("b", ("a", "c")), ("c", ("d",)), ("d", ("c",)))
        self.assertEqual(rings(book), [["a", "b"], ["c", "d"]])
        book = (("a", ("b",)), ("b", ("a",)), ("b", ("c",)), ("c", ("b",)))
        self.assertEqual(rings(book), [["a", "b", "c"]])

    def test_rings_are_told_of_learnt_words_too(self):
        self.assertEqual(rings((("a", ()), ("a", ("b",)), ("b", ("a",)))), [["a", "b"]])

    def test_a_ring_of_sixty_words(self):
        words = names(60)
        book = tuple((word, (words[k - 1],)) for k, word in enumerate(words))
        self.assertEqual(rings(book), [words])
        self.assertEqual(rings(book[1:]), [])

    def test_many_books(self):
        for book in many_books():
            self.assert_rings(book)

    def test_books_of_more_than_sixty_rows(self):
        self.assert_rings(chain(60, 3, True) + (("aa", ("ba",)), ("bh", ("bh",))) + picture_rows(80)[1:])

    def test_told_lists_are_the_askers_own(self):
        own_answers(self, lambda: rings(BOOK))
        self.assertEqual([type(thing) for thing in [rings(BOOK)] + rings(BOOK)], [list] * 3)


if __name__ == "__main__":
    unittest.main()
