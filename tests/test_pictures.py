import unittest

from helper import (EIGHT, all_words, chain, is_core, many_books, names, own_answers, picture_rows, refused_with,
                    slow_learnt, slow_pictured, slow_suffice)

from primer.errors import Lacking, Unknown
from primer.learning import learnt
from primer.pictures import apart, spared, suffice, with_pictures

BOOK = (
    ("ink", ()),
    ("pen", ("ink", "tube")),
    ("tube", ("glass",)),
    ("glass", ("sand", "pen")),
    ("glass", ("tube",)),
    ("ring", ("ring",)),
    ("ink", ("pen",)),
)


class WithPicturesTest(unittest.TestCase):
    def test_pictures_stand_behind_in_the_lists_order(self):
        self.assertEqual(with_pictures(BOOK, ["tube", "glass", "pen"]), BOOK + (("tube", ()), ("glass", ()), ("pen", ())))
        self.assertEqual(with_pictures(BOOK, ["pen", "glass"]), BOOK + (("pen", ()), ("glass", ())))

    def test_pictures_for_none(self):
        self.assertEqual(with_pictures(BOOK, []), BOOK)
        self.assertEqual(with_pictures((), []), ())

    def test_words_that_have_a_picture_already(self):
        self.assertEqual(with_pictures(BOOK, ["ink"]), BOOK)
        self.assertEqual(with_pictures(BOOK, ["tube", "ink", "sand"]), BOOK + (("tube", ()), ("sand", ())))

    def test_a_word_that_lacks(self):
        self.assertEqual(with_pictures(BOOK, ["sand"]), BOOK + (("sand", ()),))

    def test_a_tuple_will_do_as_well(self):
        self.assertEqual(with_pictures(BOOK, ("tube", "sand")), BOOK + (("tube", ()), ("sand", ())))

    def test_sixty_rows_and_pictures_behind(self):
        book = tuple((word, EIGHT) for word in names(60))
        more = with_pictures(book, names(60) + list(EIGHT))
        self.assertEqual(more, book + picture_rows(60) + tuple((word, ()) for word in EIGHT))
        self.assertEqual(with_pictures(more, ["a", "aa"]), more)
        self.assertIs(type(more), tuple)

    def test_words_that_the_book_has_not(self):
        for words in [["zebra"], ["ink", "zebra"], ["zebra", "ink"], ("tube", "tube/2")]:
            refused_with(self, Unknown, with_pictures, BOOK, words)
            refused_with(self, Unknown, suffice, BOOK, words)
            refused_with(self, Unknown, spared, BOOK, words)
        refused_with(self, Unknown, with_pictures, (), ["zebra"])

    def test_lists_handed_in_stay_as_they_are(self):
        words = ["tube", "ring", "sand"]
        with_pictures(BOOK, words)
        suffice(BOOK, words)
        spared(BOOK, words)
        self.assertEqual(words, ["tube", "ring", "sand"])

    def test_a_list_changed_afterwards_changes_nothing(self):
        words = ["tube"]
        more = with_pictures(BOOK, words)
        words.append("sand")
        words[0] = "pen"
        self.assertEqual(more, BOOK + (("tube", ()),))


class SufficeTest(unittest.TestCase):
    def test_an_ordinary_book(self):
        self.assertIs(suffice(BOOK, ["ring", "sand", "tube"]), True)
        self.assertIs(suffice(BOOK, ["ring", "sand", "glass"]), True)
        self.assertIs(suffice(BOOK, ["sand", "tube"]), False)
        self.assertIs(suffice(BOOK, ["ring", "tube"]), False)
        self.assertIs(suffice(BOOK, ["ring", "sand"]), False)
        self.assertIs(suffice(BOOK, []), False)

    def test_all_words_suffice(self):
        for book in many_books(40):
            self.assertIs(suffice(book, all_words(book)), True)
            self.assertIs(suffice(book, tuple(all_words(book))), True)

    def test_no_words_suffice_where_all_is_learnt(self):
        self.assertIs(suffice((), []), True)
        self.assertIs(suffice(chain(60, 8), []), True)
        self.assertIs(suffice(picture_rows(3), ["aa"]), True)

    def test_many_books(self):
        for book in many_books(60):
            for start in range(4):
                words = all_words(book)[start::2]
                self.assertIs(suffice(book, words), slow_suffice(book, words), (book, words))


class SparedTest(unittest.TestCase):
    def assert_spared(self, book, words):
        if not slow_suffice(book, words):
            refused_with(self, Lacking, spared, book, words)
            return
        kept = spared(book, words)
        self.assertIs(type(kept), list)
        self.assertEqual(kept, sorted(set(kept) & set(words)), (book, words))
        self.assertTrue(slow_suffice(book, kept), (book, words, kept))
        for out in kept:
            self.assertFalse(slow_suffice(book, [word for word in kept if word != out]), (book, words, kept))

    def test_an_ordinary_book(self):
        self.assertEqual(spared(BOOK, ["tube", "sand", "ring"]), ["ring", "sand", "tube"])
        self.assertEqual(spared(BOOK, ("tube", "sand", "ring", "ink")), ["ring", "sand", "tube"])
        self.assert_spared(BOOK, ["tube", "glass", "pen", "ring", "sand", "ink"])

    def test_all_is_learnt(self):
        self.assertEqual(spared((), []), [])
        self.assertEqual(spared(chain(60, 8), names(60)), [])
        self.assertEqual(spared(picture_rows(60), []), [])

    def test_words_that_do_not_suffice(self):
        for words in [[], ["ring"], ["ring", "sand"], ("tube", "ring")]:
            refused_with(self, Lacking, spared, BOOK, words)

    def test_unknown_goes_first(self):
        refused_with(self, Unknown, spared, BOOK, ["zebra"])
        refused_with(self, Unknown, spared, BOOK, ["ring", "sand", "tube", "zebra"])

    def test_many_books(self):
        for book in many_books(60):
            words = all_words(book)
            self.assert_spared(book, words)
            self.assert_spared(book, list(reversed(words)))
            self.assert_spared(book, words[1:])
            self.assert_spared(book, words[::2])

    def test_books_of_more_than_sixty_rows(self):
        book = slow_pictured(tuple((word, EIGHT) for word in names(60)), list(EIGHT[:6]) + ["aa", "ab"])
        self.assert_spared(book, ["h", "aa", "g", "ac", "b", "ad"])
        self.assert_spared(book, all_words(book))
        self.assert_spared(book, ["h"])

    def test_told_lists_are_the_askers_own(self):
        own_answers(self, lambda: spared(BOOK, ["ring", "sand", "tube", "pen"]))


class ApartTest(unittest.TestCase):
    def assert_apart(self, book):
        knots = apart(book)
        self.assertIs(type(knots), list)
        words = []
        for pairs in knots:
            self.assertIs(type(pairs), list)
            self.assertTrue(is_core(book, pairs), (book, pairs))
            words += [word for word, blocks in pairs]
        self.assertEqual(len(words), len(set(words)), (book, knots))
        self.assertTrue(slow_suffice(book, words), (book, knots))
        if slow_suffice(book, []):
            self.assertEqual(knots, [])

    def test_an_ordinary_book(self):
        self.assert_apart(BOOK)

    def test_all_is_learnt(self):
        self.assertEqual(apart(()), [])
        self.assertEqual(apart(chain(60, 8)), [])
        self.assertEqual(apart(picture_rows(5)), [])

    def test_a_core_of_one_word_that_lacks(self):
        self.assertEqual(apart((("a", ("b",)),)), [[("b", ())]])
        self.assertEqual(sorted(apart((("a", ("c", "b")),))), [[("b", ())], [("c", ())]])

    def test_a_core_of_a_word_that_tells_itself(self):
        self.assertEqual(apart((("a", ("a",)), ("b", ("a",)))), [[("a", ("a",))]])
        self.assertEqual(apart((("a", ("a",)), ("a", ("b", "a")), ("b", ("a", "b")), ("b", ()))), [[("a", ("a", "a"))]])

    def test_a_core_of_several_words(self):
        book = (("a", ("b",)), ("b", ("c",)), ("c", ("a",)), ("d", ("a",)))
        self.assertEqual(apart(book), [[("a", ("b",)), ("b", ("c",)), ("c", ("a",))]])

    def test_several_cores(self):
        book = (("a", ("b",)), ("b", ("a",)), ("c", ("d", "a")), ("d", ("c",)), ("e", ("e", "z")))
        self.assert_apart(book)
        self.assertEqual(len(apart(book)), 4)

    def test_a_word_that_a_core_holds_by_two_rows(self):
        book = (("a", ("b",)), ("a", ("c",)), ("b", ("a",)), ("c", ("a",)))
        self.assertEqual(apart(book), [[("a", ("b", "c")), ("b", ("a",)), ("c", ("a",))]])

    def test_many_books(self):
        for book in many_books():
            self.assert_apart(book)

    def test_great_books(self):
        words = names(60)
        self.assert_apart(tuple((word, EIGHT) for word in words))
        self.assert_apart(tuple((word, (word,)) for word in words))
        self.assert_apart(tuple((word, (words[k - 1],)) for k, word in enumerate(words)))
        self.assert_apart(tuple((word, tuple(words[(k + 7 * j) % 60] for j in range(8))) for k, word in enumerate(words)))

    def test_books_of_more_than_sixty_rows(self):
        book = tuple((word, EIGHT[:5]) for word in names(60)) + (("a", ("b",)), ("b", ("a",)))
        self.assert_apart(slow_pictured(book, ["c", "d"] + names(20)))
        self.assert_apart(slow_pictured(book, list(EIGHT[:5])))

    def test_told_lists_are_the_askers_own(self):
        own_answers(self, lambda: apart(BOOK))


class PicturedBooksTest(unittest.TestCase):
    def test_what_is_learnt_with_pictures(self):
        for book in many_books(40):
            words = all_words(book)[::2]
            self.assertEqual(learnt(with_pictures(book, words)), slow_learnt(slow_pictured(book, words)))


if __name__ == "__main__":
    unittest.main()
