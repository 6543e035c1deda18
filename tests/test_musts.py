import unittest

from helper import (all_words, chain, many_books, names, own_answers, picture_rows, refused_with, slow_is_knot,
                    slow_is_order, slow_learnt)

from primer.errors import Unknown, Unlearnt
from primer.musts import free_or_must, musts, without

BOOK = (
    ("ink", ()),
    ("quill", ()),
    ("pen", ("ink", "tube")),
    ("tube", ("glass",)),
    ("pen", ("quill", "ink")),
    ("glass", ("sand",)),
    ("letter", ("pen", "paper")),
    ("paper", ("quill",)),
    ("paper", ()),
    ("glass", ("ink",)),
)


def slow_without(book, word):
    return tuple(row for row in book if row[0] != word)


class WithoutTest(unittest.TestCase):
    def test_the_rows_of_the_word_go_and_all_others_stay(self):
        self.assertEqual(without(BOOK, "pen"), BOOK[:2] + BOOK[3:4] + BOOK[5:])
        self.assertEqual(without(BOOK, "ink"), BOOK[1:])

    def test_words_without_a_row_and_words_that_the_book_has_not(self):
        self.assertEqual(without(BOOK, "sand"), BOOK)
        self.assertEqual(without(BOOK, "zebra"), BOOK)
        self.assertEqual(without((), "zebra"), ())

    def test_senses_are_words_apart(self):
        book = (("pen", ()), ("pen/2", ()))
        self.assertEqual(without(book, "pen"), (("pen/2", ()),))

    def test_all_rows(self):
        self.assertEqual(without((("a", ()), ("a", ("a",))), "a"), ())

    def test_kind_and_many_books(self):
        for book in many_books(40):
            for word in all_words(book) + ["zebra"]:
                self.assertEqual(without(book, word), slow_without(book, word))
                self.assertIs(type(without(book, word)), tuple)


class MustsTest(unittest.TestCase):
    def assert_musts(self, book):
        known = slow_learnt(book)
        for word in all_words(book):
            if word not in known:
                refused_with(self, Unlearnt, musts, book, word)
                continue
            wanted = [other for other in all_words(book)
                      if other != word and word not in slow_learnt(slow_without(book, other))]
            self.assertEqual(musts(book, word), wanted, (book, word))

    def test_an_ordinary_book(self):
        self.assertEqual(musts(BOOK, "pen"), ["ink"])
        self.assertEqual(musts(BOOK, "tube"), ["glass", "ink"])
        self.assertEqual(musts(BOOK, "letter"), ["ink", "paper", "pen"])
        self.assertEqual(musts(BOOK, "paper"), [])
        self.assertEqual(musts(BOOK, "ink"), [])

    def test_a_word_that_must_have_one_of_two(self):
        book = (("a", ()), ("b", ()), ("c", ("a",)), ("c", ("b",)), ("d", ("c",)))
        self.assertEqual(musts(book, "c"), [])
        self.assertEqual(musts(book, "d"), ["c"])

    def test_a_word_under_both_ways(self):
        book = (("z", ()), ("a", ("z",)), ("b", ("z",)), ("c", ("a",)), ("c", ("b",)))
        self.assertEqual(musts(book, "c"), ["z"])

    def test_a_word_that_leans_on_itself_has_not_itself(self):
        book = (("a", ()), ("b", ("a",)), ("b", ("b", "a")), ("a", ("b",)))
        self.assertEqual(musts(book, "b"), ["a"])
        self.assertEqual(musts(book, "a"), [])

    def test_words_that_the_book_has_not(self):
        refused_with(self, Unknown, musts, BOOK, "zebra")
        refused_with(self, Unknown, musts, (), "zebra")

    def test_words_that_are_not_learnt(self):
        refused_with(self, Unlearnt, musts, BOOK, "sand")
        refused_with(self, Unlearnt, musts, (("a", ("a",)),), "a")

    def test_chains(self):
        for width in [1, 2, 8]:
            book = chain(60, width, True)
            for k in [0, 1, 30, 59]:
                self.assertEqual(musts(book, names(60)[k]), names(60)[:k])

    def test_many_books(self):
        for book in many_books(60):
            self.assert_musts(book)

    def test_books_of_more_than_sixty_rows(self):
        self.assert_musts(chain(20, 2) + (("ap", ("aa",)),) + picture_rows(65)[20:] + (("aa", ("zz",)), ("zy", ("at", "bg"))))

    def test_told_lists_are_the_askers_own(self):
        own_answers(self, lambda: musts(BOOK, "letter"))
        self.assertIs(type(musts(BOOK, "letter")), list)


class FreeOrMustTest(unittest.TestCase):
    def assert_shown(self, book, word, other):
        rest = slow_without(book, other)
        answer = free_or_must(book, word, other)
        self.assertEqual([type(answer), len(answer), type(answer[1])], [tuple, 2, list])
        if word in slow_learnt(rest):
            self.assertEqual(answer[0], "free", (book, word, other))
            self.assertTrue(slow_is_order(rest, answer[1]), (book, word, other, answer))
            self.assertEqual(answer[1][-1][0], word)
        else:
            self.assertEqual(answer[0], "must", (book, word, other))
            self.assertTrue(slow_is_knot(rest, answer[1]), (book, word, other, answer))
            self.assertIn(word, [each for each, blocks in answer[1]])

    def test_each_two_words_of_an_ordinary_book(self):
        for word in slow_learnt(BOOK):
            for other in all_words(BOOK):
                if other != word:
                    self.assert_shown(BOOK, word, other)

    def test_which_of_both(self):
        self.assertEqual(free_or_must(BOOK, "pen", "glass")[0], "free")
        self.assertEqual(free_or_must(BOOK, "pen", "ink")[0], "must")
        self.assertEqual(free_or_must(BOOK, "letter", "pen")[0], "must")

    def test_places_are_those_of_the_book_without_the_other_word(self):
        book = (("x", ()), ("a", ()), ("x", ("a",)), ("b", ("a",)))
        self.assertEqual(free_or_must(book, "b", "x"), ("free", [("a", 0), ("b", 1)]))

    def test_the_other_word_lacks_or_is_not_learnt(self):
        self.assertEqual(free_or_must(BOOK, "glass", "sand"), ("free", [("ink", 0), ("glass", 9)]))
        book = (("a", ()), ("b", ("b",)), ("a", ("b",)))
        self.assertEqual(free_or_must(book, "a", "b"), ("free", [("a", 0)]))

    def test_the_other_words_rows_are_all_the_others(self):
        book = (("a", ()), ("b", ("a",)))
        self.assertEqual(free_or_must(book, "b", "a"), ("must", [("a", ()), ("b", ("a",))]))

    def test_words_that_the_book_has_not(self):
        refused_with(self, Unknown, free_or_must, BOOK, "zebra", "ink")
        refused_with(self, Unknown, free_or_must, BOOK, "ink", "zebra")
        refused_with(self, Unknown, free_or_must, BOOK, "zebra", "horse")
        refused_with(self, Unknown, free_or_must, (), "zebra", "horse")

    def test_unknown_goes_first(self):
        refused_with(self, Unlearnt, free_or_must, BOOK, "sand", "ink")
        refused_with(self, Unknown, free_or_must, BOOK, "sand", "zebra")

    def test_each_two_words_of_many_books(self):
        for book in many_books(60):
            for word in all_words(book):
                for other in all_words(book):
                    if word == other:
                        continue
                    if word in slow_learnt(book):
                        self.assert_shown(book, word, other)
                    else:
                        refused_with(self, Unlearnt, free_or_must, book, word, other)

    def test_it_says_what_musts_says(self):
        for book in many_books(20):
            for word in slow_learnt(book):
                others = [other for other in all_words(book) if other != word]
                self.assertEqual([other for other in others if free_or_must(book, word, other)[0] == "must"],
                                 musts(book, word))

    def test_a_chain_and_books_of_more_than_sixty_rows(self):
        long_chain = chain(60, 8, True)
        for book in [long_chain, long_chain + (("bh", ()),) + picture_rows(60)[20:22] + (("bg", ("zz",)), ("zy", ("zx",)))]:
            for word, other in [("bh", "aa"), ("aa", "bh"), ("bg", "as"), ("as", "bg"), ("bh", "bg"), ("be", "az")]:
                self.assert_shown(book, word, other)

    def test_told_lists_are_the_askers_own(self):
        own_answers(self, lambda: free_or_must(BOOK, "pen", "ink"))
        own_answers(self, lambda: free_or_must(BOOK, "pen", "glass"))


if __name__ == "__main__":
    unittest.main()
