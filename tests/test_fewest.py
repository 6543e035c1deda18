import itertools
import unittest

from helper import (EIGHT, all_words, chain, many_books, names, own_answers, paper_shows, picture_rows, random_books,
                    refused_with, slow_learnt, slow_pictured, slow_suffice)

from primer.errors import TooMany
from primer.fewest import fewest
from primer.pictures import apart

BOOK = (
    ("ink", ()),
    ("pen", ("ink", "tube")),
    ("tube", ("glass",)),
    ("glass", ("sand", "pen")),
    ("glass", ("tube",)),
    ("ring", ("ring",)),
)


def least_number(book):
    words = all_words(book)
    for number in range(len(words) + 1):
        if any(slow_suffice(book, some) for some in itertools.combinations(words, number)):
            return number


class FewestTest(unittest.TestCase):
    def assert_fewest(self, book):
        open_words = sorted(set(all_words(book)) - set(slow_learnt(book)))
        if len(open_words) > 5:
            refused_with(self, TooMany, fewest, book)
            return
        answer = fewest(book)
        self.assertEqual([type(answer), len(answer), type(answer[0])], [tuple, 2, list])
        words, paper = answer
        self.assertEqual(words, sorted(set(words)))
        self.assertTrue(slow_suffice(book, words), (book, words))
        if len(words) == 0:
            self.assertIsNone(paper)
        else:
            self.assertTrue(paper_shows(book, paper, [], len(words) - 1), (book, answer))
        if len(all_words(book)) < 12:
            self.assertEqual(len(words), least_number(book), book)
        self.assertGreaterEqual(len(words), len(apart(book)))

    def test_an_ordinary_book(self):
        self.assert_fewest(BOOK)
        self.assertEqual(len(fewest(BOOK)[0]), 3)

    def test_all_is_learnt(self):
        for book in [(), picture_rows(60), chain(60, 8)]:
            self.assertEqual(fewest(book), ([], None))

    def test_one_word(self):
        self.assertEqual(fewest((("a", ("a",)),)), (["a"], ([("a", ("a",))], ())))
        self.assertEqual(fewest((("a", ()), ("b", ("z", "a")), ("b", ("a",)))), (["z"], ([("z", ())], ())))

    def test_the_least_number_is_less_than_all_that_are_not_learnt(self):
        book = (("a", ("b",)), ("b", ("c",)), ("c", ("d",)), ("d", ("e",)), ("e", ("a",)))
        self.assert_fewest(book)
        self.assertEqual(len(fewest(book)[0]), 1)

    def test_nought_to_six_words_that_lack(self):
        for number in range(6):
            book = (("z", ()),) + ((("y", EIGHT[:number]), ("y", ())) if number else ())
            self.assert_fewest(book)
            self.assertEqual(fewest(book)[0], list(EIGHT[:number]))
        for number in [6, 7, 8]:
            refused_with(self, TooMany, fewest, (("z", ()), ("y", EIGHT[:number]), ("y", ())))

    def test_more_than_five_words_are_refused_though_one_would_do(self):
        book = (("a", ("e",)), ("b", ("a",)), ("c", ("b",)), ("d", ("c",)), ("e", ("d",)))
        self.assert_fewest(book)
        refused_with(self, TooMany, fewest, book + (("f", ("a",)),))
        refused_with(self, TooMany, fewest, tuple((word, EIGHT) for word in names(60)))

    def test_five_words_each_asks_for_its_own_picture(self):
        book = tuple((word, (word,)) for word in EIGHT[:5])
        self.assert_fewest(book)
        words, paper = fewest(book)
        self.assertEqual(words, list(EIGHT[:5]))
        self.assertEqual(self.depths(paper), {5})

    def depths(self, paper):
        if paper[1] == ():
            return {1}
        return {1 + depth for _, branch in paper[1] for depth in self.depths(branch)}

    def test_each_branch_goes_down_to_left_0(self):
        book = (("a", ("b", "c")), ("b", ("a", "c")), ("c", ("a", "b")))
        self.assert_fewest(book)
        words, paper = fewest(book)
        self.assertEqual(len(words), 2)
        self.assertEqual(self.depths(paper), {2})

    def test_greedy_choice_is_not_enough(self):
        book = (("a", ("b",)), ("a", ("c", "d")), ("b", ("a", "c")), ("c", ("b", "e")), ("d", ("e",)), ("e", ("d", "c")),
                ("d", ("a",)))
        self.assert_fewest(book)

    def test_many_books(self):
        for book in many_books():
            self.assert_fewest(book)

    def test_many_books_of_five_words(self):
        found = set()
        for book in random_books(11, 500, most_rows=12, letters="abcde", most_told=3, picture_share=0.03):
            self.assert_fewest(book)
            found.add(len(fewest(book)[0]))
        self.assertEqual(found, {0, 1, 2, 3, 4, 5})

    def test_books_of_more_than_sixty_rows(self):
        book = tuple((word, EIGHT) for word in names(60))
        self.assert_fewest(slow_pictured(book, EIGHT))
        self.assert_fewest(slow_pictured(book, list(EIGHT[:7]) + names(59)))
        self.assert_fewest(slow_pictured(book, list(EIGHT[:5]) + names(58)))
        self.assert_fewest(slow_pictured(book, list(EIGHT[:4]) + names(58)))

    def test_told_lists_are_the_askers_own(self):
        own_answers(self, lambda: fewest(BOOK))
        own_answers(self, lambda: fewest((("a", ()),)))


if __name__ == "__main__":
    unittest.main()
