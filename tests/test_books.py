import itertools
import unittest

from primer.books import alike, fits, fitted, lacking, rows_of, words_of
from primer.errors import Unfit

BOOK = (
    ("ink", ()),
    ("pen", ("ink", "tube")),
    ("bank/2", ("river", "pen")),
    ("pen", ("quill",)),
    ("quill", ("quill", "ink")),
)
EIGHT = ("a", "b", "c", "d", "e", "f", "g", "h")


def pictures(number):
    letters = "abcdefghijklmnopqrstuvwxyz"
    return tuple([(letters[k // 26] + letters[k % 26], ()) for k in range(number)])


class AlikeTest(unittest.TestCase):
    def assert_alike(self, row, other, wanted):
        self.assertIs(alike(row, other), wanted)
        self.assertIs(alike(other, row), wanted)

    def test_the_same_row(self):
        for row in BOOK:
            self.assert_alike(row, row, True)

    def test_the_same_words_in_every_order(self):
        for told in itertools.permutations(("ink", "tube", "pen", "bank/2")):
            self.assert_alike(("pen", told), ("pen", ("ink", "tube", "pen", "bank/2")), True)

    def test_eight_words_in_another_order(self):
        self.assert_alike(("pen", EIGHT), ("pen", EIGHT[::-1]), True)

    def test_pictures(self):
        self.assert_alike(("ink", ()), ("ink", ()), True)
        self.assert_alike(("ink", ()), ("pen", ()), False)
        self.assert_alike(("ink", ()), ("ink", ("pen",)), False)

    def test_other_words_ahead(self):
        self.assert_alike(("pen", ("ink",)), ("quill", ("ink",)), False)
        self.assert_alike(("pen", ("ink",)), ("ink", ("pen",)), False)
        self.assert_alike(("pen", ("ink",)), ("pen/2", ("ink",)), False)

    def test_other_words_told(self):
        self.assert_alike(("pen", ("ink",)), ("pen", ("tube",)), False)
        self.assert_alike(("pen", ("ink",)), ("pen", ("ink/2",)), False)
        self.assert_alike(("pen", ("ink",)), ("pen", ("ink", "tube")), False)
        self.assert_alike(("pen", ("ab", "c")), ("pen", ("a", "bc")), False)
        self.assert_alike(("pen", ("ink", "tube")), ("pen", ("ink", "quill")), False)


class FitsTest(unittest.TestCase):
    def assert_fits(self, book):
        self.assertIs(fits(book), True)
        self.assertEqual(fitted(book), book)

    def assert_unfit(self, book):
        self.assertIs(fits(book), False)
        with self.assertRaises(Unfit) as caught:
            fitted(book)
        self.assertIs(type(caught.exception), Unfit)

    def test_ordinary_book(self):
        self.assert_fits(BOOK)
        self.assertIs(type(fitted(BOOK)), tuple)

    def test_book_without_rows(self):
        self.assert_fits(())

    def test_rows_that_tell_their_own_word(self):
        self.assert_fits((("pen", ("pen",)),))
        self.assert_fits((("pen", ("ink", "pen")), ("pen", ("pen",))))

    def test_eight_and_nine_words_told(self):
        self.assert_fits((("pen", EIGHT),))
        self.assert_unfit((("pen", EIGHT + ("i",)),))
        self.assert_fits((("a", EIGHT),))
        self.assert_unfit((("a", EIGHT + ("i",)),))

    def test_very_many_words_told(self):
        self.assert_unfit((("pen", EIGHT * 1000),))

    def test_a_word_told_twice(self):
        self.assert_unfit((("pen", ("ink", "ink")),))
        self.assert_unfit((("pen", ("ink", "tube", "ink")),))
        self.assert_unfit((("pen", ("pen", "pen")),))
        self.assert_unfit(BOOK + (("tube", ("ink", "ink")),))

    def test_senses_of_one_stem_are_words_apart(self):
        self.assert_fits((("pen", ("ink", "ink/2")), ("pen/2", ("ink", "ink/2"))))

    def test_texts_that_are_no_words(self):
        for text in ["", "/", "/2", "Ink", "ink/", "ink/0", "ink/1", "ink/02", "ink/100", "ink ", "ninewords", "1", "*"]:
            with self.subTest(text=text):
                self.assert_unfit(((text, ()),))
                self.assert_unfit(((text, ("pen",)),))
                self.assert_unfit((("pen", (text,)),))
                self.assert_unfit((("pen", ("ink", text)),))
                self.assert_unfit((("pen", (text, "ink")),))
                self.assert_unfit(BOOK + ((text, ()),))
                self.assert_unfit(((text, ()),) + BOOK)

    def test_several_rows_of_a_word(self):
        self.assert_fits((("pen", ()), ("pen", ("ink",)), ("pen", ("tube",)), ("pen", ("ink", "tube"))))

    def test_rows_that_are_alike(self):
        self.assert_unfit((("ink", ()), ("ink", ())))
        self.assert_unfit((("pen", ("ink",)), ("pen", ("ink",))))
        self.assert_unfit((("pen", ("ink", "tube")), ("pen", ("tube", "ink"))))
        self.assert_unfit((("pen", EIGHT), ("pen", EIGHT[::-1])))

    def test_rows_that_are_alike_at_any_two_places(self):
        for first, last in itertools.combinations(range(5), 2):
            rows = list(pictures(5))
            rows[first] = ("pen", ("ink", "tube"))
            rows[last] = ("pen", ("tube", "ink"))
            self.assert_unfit(tuple(rows))

    def test_rows_of_other_words_that_tell_the_same(self):
        self.assert_fits((("pen", ("ink", "tube")), ("quill", ("tube", "ink"))))

    def test_sixty_rows_and_more(self):
        self.assert_fits(pictures(59))
        self.assert_fits(pictures(60))
        self.assert_unfit(pictures(61))
        self.assert_unfit(pictures(200))
        self.assert_unfit((("pen", ()),) * 20000)

    def test_sixty_rows_two_of_them_alike(self):
        self.assert_unfit(pictures(59) + (("aa", ()),))

    def test_sixty_rows_of_eight_words_told(self):
        self.assert_fits(tuple([(row[0], EIGHT) for row in pictures(60)]))


class WordsOfBooksTest(unittest.TestCase):
    def test_words_ahead_and_told_each_once_sorted(self):
        self.assertEqual(words_of(BOOK), ["bank/2", "ink", "pen", "quill", "river", "tube"])

    def test_words_of_the_book_without_rows(self):
        self.assertEqual(words_of(()), [])
        self.assertEqual(lacking(()), [])
        self.assertEqual(rows_of((), "ink"), [])

    def test_words_are_sorted_as_texts(self):
        book = (("bank/9", ("banks", "bank/10")), ("bank", ("b", "bank/2")))
        self.assertEqual(words_of(book), ["b", "bank", "bank/10", "bank/2", "bank/9", "banks"])
        self.assertEqual(lacking(book), ["b", "bank/10", "bank/2", "banks"])

    def test_lacking_words_are_those_without_a_row(self):
        self.assertEqual(lacking(BOOK), ["river", "tube"])

    def test_a_word_with_a_row_lacks_not_wherever_it_is_told(self):
        self.assertEqual(lacking((("pen", ("pen",)),)), [])
        self.assertEqual(lacking((("pen", ("ink",)), ("ink", ("pen",)))), [])
        self.assertEqual(lacking((("ink", ()),)), [])

    def test_places_of_rows(self):
        self.assertEqual(rows_of(BOOK, "ink"), [0])
        self.assertEqual(rows_of(BOOK, "pen"), [1, 3])
        self.assertEqual(rows_of(BOOK, "bank/2"), [2])
        self.assertEqual(rows_of(BOOK, "quill"), [4])

    def test_no_places_of_words_without_a_row(self):
        self.assertEqual(rows_of(BOOK, "river"), [])
        self.assertEqual(rows_of(BOOK, "bank"), [])
        self.assertEqual(rows_of(BOOK, "zebra"), [])

    def test_books_with_more_than_sixty_rows(self):
        book = (("pen", ("ink", "tube")),) + pictures(70) + (("ink", ()), ("pen", ()))
        names = [row[0] for row in pictures(70)]
        self.assertEqual(words_of(book), sorted(names + ["ink", "pen", "tube"]))
        self.assertEqual(lacking(book), ["tube"])
        self.assertEqual(rows_of(book, "pen"), [0, 72])
        self.assertEqual(rows_of(book, "ink"), [71])

    def test_told_lists_are_the_askers_own(self):
        for ask in [lambda: words_of(BOOK), lambda: lacking(BOOK), lambda: rows_of(BOOK, "pen")]:
            first = ask()
            self.assertIs(type(first), list)
            wanted = list(first)
            first.append("zebra")
            first[0] = "changed"
            self.assertEqual(ask(), wanted)
            first.clear()
            self.assertEqual(ask(), wanted)

    def test_a_later_answer_changes_no_earlier_one(self):
        told = [words_of(BOOK), lacking(BOOK), rows_of(BOOK, "pen")]
        wanted = [list(each) for each in told]
        other = (("pen", ("zebra",)), ("pen", ()))
        self.assertEqual([words_of(other), lacking(other), rows_of(other, "pen")], [["pen", "zebra"], ["zebra"], [0, 1]])
        self.assertEqual(told, wanted)


if __name__ == "__main__":
    unittest.main()
