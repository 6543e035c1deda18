import random
import unittest

from helper import (EIGHT, all_words, names, own_answers, picture_rows, random_book, refused_with, slow_learnt, slow_under)

from primer.errors import NoDeed, NoRow, TooMany, Unfit
from primer.shelf import Shelf

NO_WORDS = ["", " ", "Ink", "ink/1", "ink/02", "ink/100", "ninewords", "*", "=", "ink\n", "a b"]


def shelf_with(book):
    shelf = Shelf()
    for word, told in book:
        shelf.put(word, list(told))
    return shelf


def state(shelf):
    return (shelf.book(), shelf.learnt_now(), shelf.deeds())


class ShelfTest(unittest.TestCase):
    def assert_refused(self, shelf, wanted, ask, *things):
        before = state(shelf)
        refused_with(self, wanted, ask, *things)
        self.assertEqual(state(shelf), before)

    def test_a_new_shelf(self):
        self.assertEqual(state(Shelf()), ((), [], 0))

    def test_rows_are_put_behind_the_others(self):
        shelf = Shelf()
        self.assertEqual(shelf.put("pen", ["ink", "tube"]), ([], []))
        self.assertEqual(shelf.put("tube", ["ink"]), ([], []))
        self.assertEqual(shelf.put("ink", []), (["ink", "pen", "tube"], []))
        self.assertEqual(shelf.book(), (("pen", ("ink", "tube")), ("tube", ("ink",)), ("ink", ())))
        self.assertEqual(shelf.learnt_now(), ["ink", "pen", "tube"])
        self.assertEqual(shelf.deeds(), 3)

    def test_rows_are_taken_out(self):
        shelf = shelf_with((("ink", ()), ("pen", ("ink",)), ("pen", ()), ("cap", ("pen", "ink"))))
        self.assertEqual(shelf.take("pen", ["ink"]), ([], []))
        self.assertEqual(shelf.take("ink", []), ([], ["cap", "ink"]))
        self.assertEqual(shelf.book(), (("pen", ()), ("cap", ("pen", "ink"))))
        self.assertEqual(state(shelf)[1:], (["pen"], 6))

    def test_kinds(self):
        shelf = Shelf()
        for told in [shelf.put("ink", []), shelf.take("ink", []), shelf.back()]:
            self.assertEqual([type(told), len(told), type(told[0]), type(told[1])], [tuple, 2, list, list])
        self.assertEqual([type(shelf.book()), type(shelf.learnt_now()), type(shelf.deeds())], [tuple, list, int])
        shelf.put("pen", ["ink"])
        self.assertEqual([type(row) for row in shelf.book()], [tuple, tuple])
        self.assertEqual([type(row[1]) for row in shelf.book()], [tuple, tuple])

    def test_tuples_will_do_as_well(self):
        shelf = Shelf()
        self.assertEqual(shelf.put("ink", ()), (["ink"], []))
        self.assertEqual(shelf.put("pen", ("ink",)), (["pen"], []))
        self.assertEqual(shelf.take("pen", ("ink",)), ([], ["pen"]))

    def test_what_is_no_row_is_not_put_in(self):
        shelf = shelf_with((("ink", ()), ("pen", ("ink", "tube"))))
        for text in NO_WORDS:
            self.assert_refused(shelf, Unfit, shelf.put, text, [])
            self.assert_refused(shelf, Unfit, shelf.put, text, ["ink"])
            self.assert_refused(shelf, Unfit, shelf.put, "tube", [text])
            self.assert_refused(shelf, Unfit, shelf.put, "tube", ["ink", text])
        self.assert_refused(shelf, Unfit, shelf.put, "tube", ["ink", "ink"])
        self.assert_refused(shelf, Unfit, shelf.put, "tube", ["tube", "ink", "tube"])
        self.assert_refused(shelf, Unfit, shelf.put, "tube", list(EIGHT) + ["i"])
        self.assertEqual(shelf.put("tube", list(EIGHT)), ([], []))

    def test_rows_alike_to_one_that_stands_there(self):
        shelf = shelf_with((("ink", ()), ("pen", ("ink", "tube"))))
        self.assert_refused(shelf, Unfit, shelf.put, "ink", [])
        self.assert_refused(shelf, Unfit, shelf.put, "pen", ["ink", "tube"])
        self.assert_refused(shelf, Unfit, shelf.put, "pen", ["tube", "ink"])
        self.assertEqual(shelf.put("pen", ["ink"]), (["pen"], []))
        self.assertEqual(shelf.put("pen", []), ([], []))

    def test_a_row_taken_out_may_be_put_in_again(self):
        shelf = shelf_with((("ink", ()), ("pen", ("ink",))))
        shelf.take("ink", [])
        self.assertEqual(shelf.put("ink", []), (["ink", "pen"], []))
        self.assertEqual(shelf.book(), (("pen", ("ink",)), ("ink", ())))

    def test_fifty_nine_and_sixty_rows(self):
        shelf = shelf_with(picture_rows(59))
        self.assert_refused(shelf, Unfit, shelf.put, "aa", [])
        shelf.put("pen", ["ink"])
        self.assertEqual(len(shelf.book()), 60)
        self.assert_refused(shelf, TooMany, shelf.put, "zz", [])
        self.assert_refused(shelf, TooMany, shelf.put, "pen", ["aa"])
        self.assert_refused(shelf, Unfit, shelf.put, "aa", [])
        self.assert_refused(shelf, Unfit, shelf.put, "pen", ["ink"])
        self.assert_refused(shelf, Unfit, shelf.put, "Pen", ["aa"])
        self.assert_refused(shelf, Unfit, shelf.put, "pen", ["aa", "aa"])
        shelf.take("aa", [])
        self.assertEqual(shelf.put("zz", []), (["zz"], []))
        self.assertEqual(len(shelf.book()), 60)

    def test_a_row_taken_out_by_its_words_in_another_order(self):
        shelf = shelf_with((("pen", EIGHT), ("pen", ("ink", "tube"))))
        shelf.take("pen", ["tube", "ink"])
        self.assertEqual(shelf.book(), (("pen", EIGHT),))
        shelf.take("pen", list(reversed(EIGHT)))
        self.assertEqual(shelf.book(), ())

    def test_no_row_to_take_out(self):
        shelf = shelf_with((("ink", ()), ("pen", ("ink", "tube"))))
        self.assert_refused(shelf, NoRow, shelf.take, "pen", [])
        self.assert_refused(shelf, NoRow, shelf.take, "pen", ["ink"])
        self.assert_refused(shelf, NoRow, shelf.take, "pen", ["ink", "tube", "cap"])
        self.assert_refused(shelf, NoRow, shelf.take, "ink", ["pen"])
        self.assert_refused(shelf, NoRow, shelf.take, "tube", ["ink"])
        self.assert_refused(shelf, NoRow, shelf.take, "zebra", [])
        empty = Shelf()
        self.assert_refused(empty, NoRow, empty.take, "ink", [])

    def test_no_row_where_it_is_none(self):
        shelf = shelf_with((("ink", ()), ("pen", ("ink", "tube"))))
        for text in NO_WORDS:
            self.assert_refused(shelf, NoRow, shelf.take, text, [])
            self.assert_refused(shelf, NoRow, shelf.take, "pen", ["ink", "tube", text])
        self.assert_refused(shelf, NoRow, shelf.take, "pen", ["ink", "tube", "ink"])
        self.assert_refused(shelf, NoRow, shelf.take, "pen", ["ink", "tube", "tube"])
        self.assert_refused(shelf, NoRow, shelf.take, "pen", list(EIGHT) + ["i"])

    def test_taking_back_down_to_the_empty_shelf_and_once_more(self):
        shelf = Shelf()
        shelf.put("pen", ["ink"])
        shelf.put("ink", [])
        shelf.take("pen", ["ink"])
        self.assertEqual(state(shelf), ((("ink", ()),), ["ink"], 3))
        self.assertEqual(shelf.back(), (["pen"], []))
        self.assertEqual(state(shelf), ((("pen", ("ink",)), ("ink", ())), ["ink", "pen"], 2))
        self.assertEqual(shelf.back(), ([], ["ink", "pen"]))
        self.assertEqual(state(shelf), ((("pen", ("ink",)),), [], 1))
        self.assertEqual(shelf.back(), ([], []))
        self.assertEqual(state(shelf), ((), [], 0))
        self.assert_refused(shelf, NoDeed, shelf.back)
        self.assert_refused(shelf, NoDeed, shelf.back)
        self.assertEqual(shelf.put("ink", []), (["ink"], []))

    def test_a_row_from_the_middle_comes_back_to_its_place(self):
        book = (("a", ()), ("b", ("c", "a")), ("c", ()), ("d", ("b",)), ("b", ("d",)))
        for word, told in book:
            shelf = shelf_with(book)
            shelf.take(word, tuple(reversed(told)))
            self.assertEqual(len(shelf.book()), 4)
            shelf.back()
            self.assertEqual(shelf.book(), book)

    def test_refused_deeds_are_not_taken_back(self):
        shelf = shelf_with((("ink", ()),))
        refused_with(self, Unfit, shelf.put, "ink", [])
        refused_with(self, NoRow, shelf.take, "pen", [])
        self.assertEqual(shelf.deeds(), 1)
        self.assertEqual(shelf.back(), ([], ["ink"]))
        self.assertEqual(shelf.book(), ())

    def test_taking_back_is_no_deed(self):
        shelf = shelf_with((("a", ()), ("b", ()), ("c", ())))
        shelf.back()
        shelf.back()
        self.assertEqual(shelf.deeds(), 1)
        shelf.put("d", [])
        self.assertEqual(shelf.deeds(), 2)
        shelf.back()
        shelf.back()
        self.assertEqual(state(shelf), ((), [], 0))

    def test_a_list_handed_in_is_copied_and_stays_as_it_is(self):
        shelf = Shelf()
        told = ["ink", "tube"]
        shelf.put("pen", told)
        self.assertEqual(told, ["ink", "tube"])
        told.append("cap")
        told[0] = "zebra"
        self.assertEqual(shelf.book(), (("pen", ("ink", "tube")),))
        out = ["tube", "ink"]
        shelf.take("pen", out)
        self.assertEqual(out, ["tube", "ink"])
        out.clear()
        shelf.back()
        self.assertEqual(shelf.book(), (("pen", ("ink", "tube")),))

    def test_told_lists_are_the_askers_own(self):
        shelf = shelf_with((("ink", ()), ("pen", ("ink",))))
        own_answers(self, shelf.learnt_now)
        gained, lost = shelf.take("ink", [])
        lost.clear()
        gained.append("zebra")
        self.assertEqual(shelf.back(), (["ink", "pen"], []))
        self.assertEqual(shelf.learnt_now(), ["ink", "pen"])
        before = shelf.book()
        known = shelf.learnt_now()
        shelf.put("cap", ["pen"])
        self.assertEqual(before, (("ink", ()), ("pen", ("ink",))))
        self.assertEqual(known, ["ink", "pen"])

    def test_shelves_are_apart(self):
        one = shelf_with((("ink", ()),))
        other = shelf_with((("pen", ()),))
        one.take("ink", [])
        self.assertEqual(state(other), ((("pen", ()),), ["pen"], 1))
        self.assertEqual(state(Shelf()), ((), [], 0))
        other.back()
        self.assertEqual(state(one), ((), [], 2))

    def assert_change(self, ahead, behind, told, word):
        known, known_then = slow_learnt(ahead), slow_learnt(behind)
        self.assertEqual(told, (sorted(set(known_then) - set(known)), sorted(set(known) - set(known_then))))
        with_row = ahead if len(ahead) > len(behind) else behind
        for each in told[0] + told[1]:
            self.assertTrue(each == word or word in slow_under(with_row, each), (ahead, behind, told))

    def test_deeds_by_chance(self):
        chance = random.Random(5)
        for _ in range(60):
            shelf = Shelf()
            past = []
            for _ in range(40):
                ahead = shelf.book()
                deed = chance.choice(["put", "put", "take", "back"])
                if deed == "back" and past:
                    told = shelf.back()
                    wanted, word = past.pop()
                    self.assertEqual(shelf.book(), wanted)
                elif deed == "take" and ahead:
                    place = chance.randrange(len(ahead))
                    word, words = ahead[place]
                    told = shelf.take(word, chance.sample(words, len(words)))
                    self.assertEqual(shelf.book(), ahead[:place] + ahead[place + 1:])
                    self.assertEqual(told[0], [])
                    past.append((ahead, word))
                else:
                    rows = [row for row in random_book(chance) if not any(
                        row[0] == each[0] and set(row[1]) == set(each[1]) for each in ahead)]
                    if not rows:
                        continue
                    word, words = rows[0]
                    told = shelf.put(word, list(words))
                    self.assertEqual(shelf.book(), ahead + (rows[0],))
                    self.assertEqual(told[1], [])
                    past.append((ahead, word))
                self.assert_change(ahead, shelf.book(), told, word)
                self.assertEqual(shelf.learnt_now(), slow_learnt(shelf.book()))
                self.assertEqual(shelf.deeds(), len(past))

    def test_a_full_shelf_taken_down(self):
        shelf = shelf_with(tuple((word, EIGHT) for word in names(60)))
        self.assertEqual(all_words(shelf.book()), sorted(names(60) + list(EIGHT)))
        for _ in range(60):
            shelf.back()
        refused_with(self, NoDeed, shelf.back)


if __name__ == "__main__":
    unittest.main()
