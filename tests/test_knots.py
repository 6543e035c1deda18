import itertools
import unittest

from helper import (all_words, chain, many_books, names, own_answers, picture_rows, slow_is_knot, slow_learnt)

from primer.knots import is_knot, knot
from primer.learning import order

BOOK = (
    ("ink", ()),
    ("pen", ("ink", "tube")),
    ("tube", ("glass", "ink")),
    ("pen", ("glass", "pen")),
    ("glass", ("sand",)),
    ("glass", ("tube",)),
    ("glass", ("pen", "ink", "tube")),
)


class KnotTest(unittest.TestCase):
    def assert_knot_of_all(self, book):
        pairs = knot(book)
        wanted = sorted(set(all_words(book)) - set(slow_learnt(book)))
        self.assertEqual([word for word, blocks in pairs], wanted, book)
        self.assertTrue(slow_is_knot(book, pairs), (book, pairs))
        self.assertIs(is_knot(book, pairs), True)
        self.assertIs(is_knot(book, tuple(pairs)), True)
        self.assertEqual(sorted(wanted + [word for word, place in order(book)]), all_words(book))

    def test_an_ordinary_book(self):
        self.assert_knot_of_all(BOOK)
        self.assertEqual([word for word, blocks in knot(BOOK)], ["glass", "pen", "sand", "tube"])
        self.assertEqual(dict(knot(BOOK))["sand"], ())
        self.assertEqual(len(dict(knot(BOOK))["glass"]), 3)
        self.assertEqual(dict(knot(BOOK))["tube"], ("glass",))

    def test_the_book_without_rows(self):
        self.assertEqual(knot(()), [])

    def test_all_words_learnt(self):
        self.assertEqual(knot(picture_rows(60)), [])
        self.assertEqual(knot(chain(60, 8)), [])

    def test_no_word_learnt(self):
        self.assertEqual(knot((("a", ("a",)),)), [("a", ("a",))])
        self.assertEqual(knot((("a", ("b",)),)), [("a", ("b",)), ("b", ())])
        self.assertEqual(knot((("a", ("b",)), ("b", ("a",)))), [("a", ("b",)), ("b", ("a",))])

    def test_a_word_with_a_picture_and_other_rows_is_in_no_knot(self):
        book = (("a", ("b",)), ("a", ()), ("b", ("b",)), ("a", ("a",)))
        self.assertEqual(knot(book), [("b", ("b",))])

    def test_blocks_for_each_row_in_the_books_order(self):
        book = (("a", ("c",)), ("b", ("a",)), ("a", ("b",)), ("c", ("z",)), ("a", ("z",)))
        self.assertEqual(knot(book), [("a", ("c", "b", "z")), ("b", ("a",)), ("c", ("z",)), ("z", ())])

    def test_blocks_are_words_of_the_knot_where_learnt_ones_are_told_too(self):
        book = (("ink", ()), ("jar", ()), ("a", ("ink", "jar", "z")), ("a", ("ink", "a", "jar")))
        self.assertEqual(knot(book), [("a", ("z", "a")), ("z", ())])

    def test_many_books(self):
        for book in many_books():
            self.assert_knot_of_all(book)

    def test_books_of_more_than_sixty_rows(self):
        book = tuple((word, tuple(names(9)[:8])) for word in names(60)) + (("zz", ()), ("aa", ("zz", "zy")))
        self.assert_knot_of_all(book)
        self.assert_knot_of_all(book + tuple((word, ()) for word in names(5)))
        self.assert_knot_of_all(book + tuple((word, ()) for word in names(9)))

    def test_told_lists_are_the_askers_own(self):
        own_answers(self, lambda: knot(BOOK))

    def test_kinds(self):
        self.assertIs(type(knot(BOOK)), list)
        for pair in knot(BOOK):
            self.assertEqual([type(pair), type(pair[0]), type(pair[1])], [tuple, str, tuple])


class IsKnotTest(unittest.TestCase):
    def assert_knot(self, book, pairs, wanted):
        self.assertIs(is_knot(book, pairs), wanted, pairs)
        self.assertIs(is_knot(book, tuple(pairs)), wanted, pairs)
        self.assertIs(slow_is_knot(book, pairs), wanted, pairs)

    def test_the_list_without_pairs(self):
        for book in [(), BOOK, picture_rows(3)]:
            self.assert_knot(book, [], True)

    def test_ordinary_knots(self):
        self.assert_knot(BOOK, [("sand", ())], True)
        self.assert_knot(BOOK, [("glass", ("sand", "tube", "tube")), ("sand", ()), ("tube", ("glass",))], True)
        self.assert_knot((("a", ("a", "b")), ("c", ("c",))), [("a", ("a",)), ("c", ("c",))], True)
        self.assert_knot((("a", ("a", "b")), ("c", ("c",))), [("c", ("c",))], True)

    def test_words_that_are_not_sorted_or_stand_twice(self):
        book = (("a", ("b",)), ("b", ("a",)))
        self.assert_knot(book, [("a", ("b",)), ("b", ("a",))], True)
        self.assert_knot(book, [("b", ("a",)), ("a", ("b",))], False)
        self.assert_knot(book, [("a", ("b",)), ("a", ("b",)), ("b", ("a",))], False)
        self.assert_knot(BOOK, [("sand", ()), ("sand", ())], False)

    def test_words_that_the_book_has_not(self):
        for text in ["zebra", "", "Sand", "sand/2", "*"]:
            self.assert_knot(BOOK, [(text, ())], False)
            self.assert_knot(BOOK, sorted([("sand", ()), (text, ())]), False)
            self.assert_knot((), [(text, ())], False)

    def test_a_word_with_a_picture(self):
        self.assert_knot(BOOK, [("ink", ())], False)
        self.assert_knot(BOOK, [("ink", ("ink",))], False)
        self.assert_knot((("a", ("a",)), ("a", ())), [("a", ("a",))], False)
        self.assert_knot((("a", ("a",)), ("a", ())), [("a", ("a", "a"))], False)

    def test_a_block_too_few_or_too_many(self):
        whole = ("sand", "tube", "tube")
        self.assert_knot(BOOK, [("glass", whole[:2]), ("sand", ()), ("tube", ("glass",))], False)
        self.assert_knot(BOOK, [("glass", whole + ("sand",)), ("sand", ()), ("tube", ("glass",))], False)
        self.assert_knot(BOOK, [("glass", whole), ("sand", ()), ("tube", ("glass", "glass"))], False)
        self.assert_knot(BOOK, [("glass", whole), ("sand", ()), ("tube", ())], False)
        self.assert_knot(BOOK, [("sand", ("sand",))], False)

    def test_a_block_that_is_not_told_in_that_row(self):
        self.assert_knot(BOOK, [("glass", ("tube", "sand", "tube")), ("sand", ()), ("tube", ("glass",))], False)
        self.assert_knot(BOOK, [("glass", ("sand", "tube", "sand")), ("sand", ()), ("tube", ("glass",))], False)
        self.assert_knot((("a", ("b",)), ("b", ("b",))), [("a", ("a",)), ("b", ("b",))], False)

    def test_a_block_that_is_no_word_of_the_knot(self):
        self.assert_knot(BOOK, [("glass", ("sand", "tube", "pen")), ("sand", ()), ("tube", ("glass",))], False)
        self.assert_knot(BOOK, [("tube", ("glass",))], False)
        self.assert_knot(BOOK, [("sand", ()), ("tube", ("ink",))], False)
        self.assert_knot((("a", ("b",)),), [("a", ("b",))], False)

    def test_a_learnt_word_is_in_no_knot(self):
        book = (("ink", ()), ("pen", ("ink",)))
        self.assert_knot(book, [("ink", ()), ("pen", ("ink",))], False)
        self.assert_knot(book, [("pen", ("ink",))], False)

    def test_all_short_lists_of_pairs(self):
        books = [(("a", ("b",)), ("b", ("a", "b")), ("a", ("a", "c"))), (("a", ("a",)), ("b", ("a",)), ("a", ("b", "a")))]
        for book in books:
            texts = ["a", "b", "c", "z"]
            blocks = [each for number in range(3) for each in itertools.product(texts, repeat=number)]
            pairs = [(text, each) for text in texts for each in blocks]
            for number in [1, 2]:
                for some in itertools.product(pairs, repeat=number):
                    self.assertIs(is_knot(book, list(some)), slow_is_knot(book, some), (book, some))

    def test_all_sets_of_words_of_many_books(self):
        for book in many_books(12):
            words = all_words(book)
            for number in range(min(4, len(words) + 1)):
                for some in itertools.combinations(words, number):
                    pairs = []
                    for word in some:
                        rows = [told for other, told in book if other == word]
                        pairs.append((word, tuple(([each for each in told if each in some] + ["z"])[0] for told in rows)))
                    self.assertIs(is_knot(book, pairs), slow_is_knot(book, pairs), (book, pairs))

    def test_lists_handed_in_stay_as_they_are(self):
        for pairs in [knot(BOOK), [("sand", ()), ("glass", ())], []]:
            before = list(pairs)
            is_knot(BOOK, pairs)
            self.assertEqual(pairs, before)


if __name__ == "__main__":
    unittest.main()
