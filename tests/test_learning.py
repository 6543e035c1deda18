import itertools
import unittest

from helper import (all_words, chain, many_books, names, own_answers, picture_rows, slow_is_order, slow_learnt,
                    slow_rounds)

from primer.learning import is_order, learnt, order, rounds

BOOK = (
    ("pen", ("ink", "tube")),
    ("ink", ()),
    ("tube", ("glass",)),
    ("pen", ("quill", "ink")),
    ("quill", ()),
    ("tube", ("ink", "quill")),
    ("glass", ("glass",)),
    ("river", ("water", "ink")),
)


class RoundsTest(unittest.TestCase):
    def test_an_ordinary_book(self):
        self.assertEqual(rounds(BOOK), [["ink", "quill"], ["pen", "tube"]])
        self.assertEqual(learnt(BOOK), ["ink", "pen", "quill", "tube"])

    def test_the_book_without_rows(self):
        self.assertEqual(rounds(()), [])
        self.assertEqual(learnt(()), [])
        self.assertEqual(order(()), [])

    def test_no_word_learnt(self):
        for book in [(("a", ("a",)),), (("a", ("b",)),), (("a", ("b",)), ("b", ("a",)))]:
            self.assertEqual([rounds(book), learnt(book), order(book)], [[], [], []])

    def test_pictures_alone(self):
        book = (("b", ()), ("c", ()), ("a", ()))
        self.assertEqual(rounds(book), [["a", "b", "c"]])
        self.assertEqual(learnt(book), ["a", "b", "c"])

    def test_a_word_is_learnt_in_its_first_round_alone(self):
        book = (("a", ()), ("b", ("a",)), ("a", ("b",)), ("c", ("b",)), ("c", ("a",)), ("b", ("c",)), ("c", ("a", "b")))
        self.assertEqual(rounds(book), [["a"], ["b", "c"]])

    def test_a_word_with_a_picture_and_other_rows(self):
        self.assertEqual(rounds((("a", ("b",)), ("a", ("a",)), ("a", ()))), [["a"]])
        self.assertEqual(learnt((("a", ("b",)), ("a", ("a",)), ("a", ()))), ["a"])

    def test_rows_that_tell_their_own_word(self):
        book = (("a", ()), ("b", ("a", "b")), ("c", ("c", "a")), ("c", ("a",)))
        self.assertEqual(rounds(book), [["a"], ["c"]])

    def test_words_that_lack(self):
        self.assertEqual(rounds((("a", ()), ("b", ("a", "z")), ("c", ("z",)), ("c", ("a",)))), [["a"], ["c"]])

    def test_words_of_one_round_in_a_row_of_the_next(self):
        book = (("c", ("a", "b")), ("b", ("a",)), ("a", ()))
        self.assertEqual(rounds(book), [["a"], ["b"], ["c"]])

    def test_words_are_sorted_as_texts(self):
        book = (("bank/9", ()), ("bank/10", ()), ("bank", ()), ("ban", ()), ("banks", ()))
        self.assertEqual(rounds(book), [["ban", "bank", "bank/10", "bank/9", "banks"]])

    def test_a_chain_of_sixty_rows(self):
        for backward in [False, True]:
            for width in [1, 2, 8]:
                book = chain(60, width, backward)
                self.assertEqual(rounds(book), [[word] for word in names(60)])
                self.assertEqual(learnt(book), names(60))

    def test_many_books(self):
        for book in many_books():
            self.assertEqual(rounds(book), slow_rounds(book), book)
            self.assertEqual(learnt(book), slow_learnt(book), book)

    def test_books_of_more_than_sixty_rows(self):
        book = chain(60, 8, True) + (("zz", ("aa", "y")),) + picture_rows(90)[60:] + (("zz", ("bh", "cl")),)
        self.assertEqual(rounds(book), slow_rounds(book))
        self.assertEqual(learnt(book), sorted(names(90) + ["zz"]))
        self.assertEqual(sorted(word for word, place in order(book)), learnt(book))
        self.assertTrue(slow_is_order(book, order(book)))
        self.assertIs(is_order(book, order(book)), True)

    def test_told_lists_are_the_askers_own(self):
        for ask in [lambda: rounds(BOOK), lambda: learnt(BOOK), lambda: order(BOOK)]:
            own_answers(self, ask)

    def test_kinds(self):
        self.assertEqual([type(words) for words in [rounds(BOOK)] + rounds(BOOK)], [list, list, list])
        self.assertIs(type(learnt(BOOK)), list)
        self.assertEqual([type(thing) for thing in [order(BOOK)] + order(BOOK)], [list] + [tuple] * 4)
        self.assertEqual([type(place) for word, place in order(BOOK)], [int] * 4)


class OrderTest(unittest.TestCase):
    def assert_order_of_all(self, book):
        steps = order(book)
        self.assertTrue(slow_is_order(book, steps), (book, steps))
        self.assertEqual(sorted(word for word, place in steps), slow_learnt(book), (book, steps))
        self.assertIs(is_order(book, steps), True)
        self.assertIs(is_order(book, tuple(steps)), True)

    def test_an_order_of_all_learnt_words(self):
        self.assert_order_of_all(BOOK)
        for book in many_books():
            self.assert_order_of_all(book)

    def test_chains(self):
        self.assert_order_of_all(chain(60, 8, True))
        self.assert_order_of_all(chain(60, 1))

    def test_beginnings_of_an_order_are_orders(self):
        steps = order(BOOK)
        for number in range(len(steps) + 1):
            self.assertIs(is_order(BOOK, steps[:number]), True)

    def test_the_list_without_steps(self):
        for book in [(), BOOK, (("a", ("a",)),)]:
            self.assertIs(is_order(book, []), True)
            self.assertIs(is_order(book, ()), True)

    def test_ordinary_orders(self):
        self.assertIs(is_order(BOOK, [("quill", 4)]), True)
        self.assertIs(is_order(BOOK, [("quill", 4), ("ink", 1), ("tube", 5), ("pen", 0)]), True)
        self.assertIs(is_order(BOOK, [("quill", 4), ("ink", 1), ("pen", 3)]), True)

    def test_an_order_may_learn_words_by_later_rounds(self):
        book = (("a", ()), ("b", ("a",)), ("c", ("a", "b")), ("c", ("a",)))
        self.assertIs(is_order(book, [("a", 0), ("b", 1), ("c", 2)]), True)
        self.assertIs(is_order(book, [("a", 0), ("c", 3)]), True)

    def test_steps_in_a_wrong_order(self):
        self.assertIs(is_order(BOOK, [("pen", 3), ("quill", 4), ("ink", 1)]), False)
        self.assertIs(is_order(BOOK, [("quill", 4), ("pen", 3), ("ink", 1)]), False)

    def test_places_that_there_are_not(self):
        for place in [-1, -2, -4, -7, -8, -9, 8, 9, 100, 10 ** 30, -10 ** 30]:
            for word in ["ink", "quill", "river"]:
                self.assertIs(is_order(BOOK, [(word, place)]), False)
        for place in [-1, 0, 1]:
            self.assertIs(is_order((), [("ink", place)]), False)
        self.assertIs(is_order((("a", ()),), [("a", 1)]), False)
        self.assertIs(is_order((("a", ()),), [("a", -1)]), False)

    def test_a_step_twice(self):
        self.assertIs(is_order(BOOK, [("ink", 1), ("ink", 1)]), False)
        self.assertIs(is_order(BOOK, [("ink", 1), ("quill", 4), ("ink", 1)]), False)

    def test_a_word_in_two_steps_by_two_rows(self):
        steps = [("ink", 1), ("quill", 4), ("tube", 5), ("pen", 0)]
        self.assertIs(is_order(BOOK, steps), True)
        self.assertIs(is_order(BOOK, steps + [("pen", 3)]), False)

    def test_another_words_row(self):
        self.assertIs(is_order(BOOK, [("quill", 1)]), False)
        self.assertIs(is_order(BOOK, [("ink", 4)]), False)
        self.assertIs(is_order(BOOK, [("ink", 1), ("quill", 4), ("river", 5)]), False)

    def test_rows_that_tell_their_own_word(self):
        self.assertIs(is_order(BOOK, [("glass", 6)]), False)

    def test_words_that_the_book_has_not(self):
        for text in ["zebra", "", "Ink", "ink ", "*"]:
            self.assertIs(is_order(BOOK, [(text, 1)]), False)
            self.assertIs(is_order(BOOK, [("ink", 1), (text, 4)]), False)
            self.assertIs(is_order(BOOK, [(text, 99)]), False)

    def test_words_told_that_stand_in_no_step(self):
        self.assertIs(is_order(BOOK, [("ink", 1), ("river", 7)]), False)
        self.assertIs(is_order(BOOK, [("ink", 1), ("tube", 2)]), False)

    def test_all_short_lists_of_steps(self):
        for book in [BOOK[:4], (("a", ()), ("b", ("a",)), ("b", ()), ("a", ("b", "a")))]:
            steps = [(word, place) for word in all_words(book) for place in range(-1, len(book) + 1)]
            for number in [1, 2, 3]:
                for some in itertools.islice(itertools.product(steps, repeat=number), 8000):
                    self.assertIs(is_order(book, list(some)), slow_is_order(book, some), (book, some))

    def test_lists_handed_in_stay_as_they_are(self):
        for steps in [order(BOOK), [("ink", 1), ("ink", 1)], [("pen", 99)], []]:
            before = list(steps)
            is_order(BOOK, steps)
            self.assertEqual(steps, before)


if __name__ == "__main__":
    unittest.main()
