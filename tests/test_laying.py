import random
import unittest

from helper import (EIGHT, all_words, chain, many_books, names, own_answers, picture_rows, random_book, refused_with,
                    slow_learnt)

from primer.books import fits
from primer.errors import TooMany
from primer.laying import laid, new_names
from primer.trimming import trimmed

ONE = (("bank", ("river",)), ("river", ()), ("ink", ()))
OTHER = (("bank", ("money", "ink")), ("money", ("bank/2",)), ("bank/2", ()), ("ink", ()))


def slow_names(one, other, same):
    given = {}
    for word in all_words(other):
        name = word
        if word in all_words(one) and word not in same:
            stem = word.split("/")[0]
            taken = set(all_words(one)) | set(all_words(other)) | set(given.values())
            free = [number for number in range(2, 100) if f"{stem}/{number}" not in taken]
            if not free:
                return None
            name = f"{stem}/{free[0]}"
        given[word] = name
    return given


def slow_laid(one, other, same):
    given = slow_names(one, other, same)
    rows = list(one)
    for word, told in other:
        row = (given[word], tuple(given[each] for each in told))
        if not any(row[0] == each[0] and set(row[1]) == set(each[1]) for each in rows):
            rows.append(row)
    return tuple(rows)


class NewNamesTest(unittest.TestCase):
    def test_an_ordinary_pair(self):
        self.assertEqual(new_names(ONE, OTHER, ["ink"]),
                         [("bank", "bank/3"), ("bank/2", "bank/2"), ("ink", "ink"), ("money", "money")])
        self.assertEqual(new_names(ONE, OTHER, []),
                         [("bank", "bank/3"), ("bank/2", "bank/2"), ("ink", "ink/2"), ("money", "money")])
        self.assertEqual(new_names(ONE, OTHER, ["bank", "ink"]),
                         [("bank", "bank"), ("bank/2", "bank/2"), ("ink", "ink"), ("money", "money")])

    def test_books_without_rows(self):
        self.assertEqual(new_names((), (), []), [])
        self.assertEqual(new_names(ONE, (), ["ink"]), [])
        self.assertEqual(new_names((), OTHER, []), [(word, word) for word in ["bank", "bank/2", "ink", "money"]])

    def test_words_told_the_same_twice_or_not_in_both(self):
        wanted = new_names(ONE, OTHER, ["ink"])
        for same in [["ink", "ink"], ["ink", "river"], ["money", "ink"], ["zebra", "ink", "bank/2"], ("ink", "ink")]:
            self.assertEqual(new_names(ONE, OTHER, same), wanted)

    def test_names_that_are_taken_in_the_one(self):
        self.assertEqual(new_names((("a", ("a/2", "a/3")),), (("a", ()),), []), [("a", "a/4")])

    def test_names_that_are_taken_in_the_other(self):
        self.assertEqual(new_names((("a", ()),), (("a", ("a/2", "a/4")),), []),
                         [("a", "a/3"), ("a/2", "a/2"), ("a/4", "a/4")])

    def test_names_that_were_given_ahead(self):
        one = (("a", ("a/2", "a/3")),)
        self.assertEqual(new_names(one, one, []), [("a", "a/4"), ("a/2", "a/5"), ("a/3", "a/6")])

    def test_the_words_are_gone_through_sorted(self):
        one = (("a", ("a/2", "a/10")), ("a/9", ()))
        self.assertEqual(new_names(one, one, []), [("a", "a/3"), ("a/10", "a/4"), ("a/2", "a/5"), ("a/9", "a/6")])

    def test_a_later_sense_takes_a_number_for_its_stem(self):
        self.assertEqual(new_names((("a/5", ()),), (("a/5", ()),), []), [("a/5", "a/2")])

    def test_a_word_told_the_same_keeps_its_name_taken(self):
        one = (("a", ("a/2",)),)
        self.assertEqual(new_names(one, one, ["a/2"]), [("a", "a/3"), ("a/2", "a/2")])

    def test_senses_up_to_99_all_taken(self):
        words = ["a"] + ["a/" + str(number) for number in range(2, 100)]
        one = tuple((words[k], tuple(words[k + 1:k + 9])) for k in range(0, 99, 9))
        self.assertEqual(all_words(one), sorted(words))
        refused_with(self, TooMany, new_names, one, (("a", ()),), [])
        refused_with(self, TooMany, laid, one, (("a", ()),), [])
        self.assertEqual(new_names(one, (("a", ()),), ["a"]), [("a", "a")])
        self.assertEqual(new_names(one, (("b", ("b/2",)),), []), [("b", "b"), ("b/2", "b/2")])

    def test_the_last_number_is_99(self):
        words = ["a"] + ["a/" + str(number) for number in range(2, 99)]
        one = tuple((words[k], tuple(words[k + 1:k + 9])) for k in range(0, 98, 9))
        self.assertEqual(all_words(one), sorted(words))
        self.assertEqual(new_names(one, (("a", ()),), []), [("a", "a/99")])
        refused_with(self, TooMany, new_names, one, (("a", ("a/2",)),), [])
        refused_with(self, TooMany, new_names, one, (("a", ("a/99",)),), [])
        self.assertEqual(new_names(one, (("a", ("a/2",)),), ["a"]), [("a", "a"), ("a/2", "a/99")])

    def test_many_books(self):
        chance = random.Random(8)
        for _ in range(300):
            one = random_book(chance, letters=["a", "a/2", "a/3", "b", "b/2", "c"])
            other = random_book(chance, letters=["a", "a/2", "a/4", "b", "b/3", "d"])
            same = chance.choices(["a", "a/2", "b", "d", "z"], k=chance.randint(0, 3))
            self.assertEqual(new_names(one, other, same), sorted(slow_names(one, other, same).items()))
            self.assertEqual(laid(one, other, same), slow_laid(one, other, same))

    def test_told_lists_are_the_askers_own_and_lists_handed_in_stay(self):
        own_answers(self, lambda: new_names(ONE, OTHER, ["ink"]))
        same = ["ink", "zebra", "ink"]
        names_then = new_names(ONE, OTHER, same)
        laid(ONE, OTHER, same)
        self.assertEqual(same, ["ink", "zebra", "ink"])
        same.append("bank")
        self.assertEqual(names_then, new_names(ONE, OTHER, ["ink"]))
        self.assertEqual([type(thing) for thing in [names_then] + names_then], [list] + [tuple] * 4)


class LaidTest(unittest.TestCase):
    def test_an_ordinary_pair(self):
        self.assertEqual(laid(ONE, OTHER, ["ink"]),
                         ONE + (("bank/3", ("money", "ink")), ("money", ("bank/2",)), ("bank/2", ())))
        self.assertEqual(laid(ONE, OTHER, ()),
                         ONE + (("bank/3", ("money", "ink/2")), ("money", ("bank/2",)), ("bank/2", ()), ("ink/2", ())))

    def test_books_without_rows(self):
        self.assertEqual(laid((), (), []), ())
        self.assertEqual(laid(ONE, (), []), ONE)
        self.assertEqual(laid((), OTHER, []), OTHER)

    def test_rows_that_come_out_alike(self):
        one = (("pen", ("ink", "tube")), ("ink", ()))
        other = (("pen", ("tube", "ink")), ("pen", ("ink",)), ("ink", ()))
        self.assertEqual(laid(one, other, ["pen", "ink", "tube"]), one + (("pen", ("ink",)),))
        self.assertEqual(laid(one, one, ["ink", "pen", "tube"]), one)
        self.assertEqual(laid(one, one, ["ink", "pen"]), one + (("pen", ("ink", "tube/2")),))

    def test_words_keep_their_order_in_a_row(self):
        self.assertEqual(laid((("b", ()),), (("z", ("c", "b", "a")),), []), (("b", ()), ("z", ("c", "b/2", "a"))))

    def test_sixty_and_sixty_one_rows(self):
        one = picture_rows(59)
        self.assertEqual(laid(one, (("zz", ("aa",)),), ["aa"]), one + (("zz", ("aa",)),))
        refused_with(self, TooMany, laid, one, (("zz", ("aa",)), ("zy", ())), ["aa"])
        self.assertEqual(new_names(one, (("zz", ("aa",)), ("zy", ())), ["aa"]), [("aa", "aa"), ("zy", "zy"), ("zz", "zz")])
        sixty = picture_rows(60)
        self.assertEqual(laid(sixty, sixty, names(60)), sixty)
        refused_with(self, TooMany, laid, sixty, sixty, names(60)[1:])
        refused_with(self, TooMany, laid, sixty, (("zz", ()),), [])
        self.assertEqual(len(laid(picture_rows(30), picture_rows(30), [])), 60)

    def test_books_of_more_than_sixty_rows(self):
        more = picture_rows(61)
        refused_with(self, TooMany, laid, more, (), [])
        refused_with(self, TooMany, laid, (), more, [])
        self.assertEqual(new_names(more, more[:1], []), [("aa", "aa/2")])

    def test_what_is_learnt_in_the_book_laid_together(self):
        chance = random.Random(9)
        for _ in range(300):
            one = random_book(chance, letters="abcdef", picture_share=0.3)
            other = random_book(chance, letters="cdefgh", picture_share=0.3)
            same = chance.sample("abcdefghz", chance.randint(0, 4))
            book = laid(one, other, same)
            self.assertTrue(fits(book))
            given = dict(new_names(one, other, same))
            least = set(slow_learnt(one)) | {given[word] for word in slow_learnt(other)}
            self.assertLessEqual(least, set(slow_learnt(book)))
            if not set(same) & set(all_words(one)) & set(all_words(other)):
                self.assertEqual(least, set(slow_learnt(book)))


class TrimmedTest(unittest.TestCase):
    def assert_trimmed(self, book):
        less = trimmed(book)
        self.assertIs(type(less), tuple)
        rest = list(book)
        for row in less:
            self.assertIn(row, rest)
            rest = rest[rest.index(row) + 1:]
        self.assertEqual(slow_learnt(less), slow_learnt(book), book)
        for place in range(len(less)):
            self.assertNotEqual(slow_learnt(less[:place] + less[place + 1:]), slow_learnt(book), (book, less))

    def test_an_ordinary_book(self):
        book = (("pen", ("ink",)), ("ink", ()), ("river", ("water",)), ("pen", ("pen",)), ("ink", ("pen",)))
        self.assertEqual(trimmed(book), (("pen", ("ink",)), ("ink", ())))

    def test_nothing_to_trim(self):
        for book in [(), picture_rows(60), chain(60, 8), chain(60, 2, True)]:
            self.assertEqual(trimmed(book), book)

    def test_no_word_learnt(self):
        self.assertEqual(trimmed((("a", ("a",)), ("b", ("z",)))), ())

    def test_rows_that_hold_each_other(self):
        self.assert_trimmed((("a", ("b",)), ("b", ("a",)), ("a", ("c",)), ("b", ("c",)), ("c", ())))

    def test_many_books(self):
        for book in many_books():
            self.assert_trimmed(book)

    def test_books_of_more_than_sixty_rows(self):
        self.assert_trimmed(chain(60, 2) + picture_rows(65)[30:] + (("aa", EIGHT),))


if __name__ == "__main__":
    unittest.main()
