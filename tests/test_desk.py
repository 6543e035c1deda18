import unittest

from helper import (EIGHT, all_words, chain, many_books, names, refused_with, slow_learnt, slow_prices,
                    slow_rounds, slow_suffice, slow_under)

from primer.desk import Desk
from primer.errors import NoDeed, NoRow, NoText, TooMany, Unfit, Unknown, Unlearnt
from primer.fewest import fewest
from primer.writer import shown

ROWS = ["ink = *", "tube = glass", "pen = tube ink", "glass = ink", "river = water", "pen = quill", "cap = cap"]
ASKING = ["round", "price", "read", "under", "over", "musts", "why"]


def desk_with(rows):
    desk = Desk()
    for row in rows:
        desk.say("put " + row)
    return desk


def desk_of(book):
    return desk_with(shown(book).split("\n") if book else [])


def reading_starts(book, word, words, end):
    """Where readings of this word may begin that end ahead of end, told by the words that their rows explain."""
    found = set()
    if end > 0 and words[end - 1] == word:
        for told in [told for other, told in book if other == word]:
            ends = {end - 1}
            for each in reversed(told):
                ends = {start for some in ends for start in reading_starts(book, each, words, some)}
            found |= ends
    return found


def listed(words):
    return " ".join(words) if words else "-"


class DeedsTest(unittest.TestCase):
    def assert_refused(self, desk, wanted, *texts):
        for text in texts:
            with self.subTest(text=text):
                before = desk.say("book")
                refused_with(self, wanted, desk.say, text)
                self.assertEqual(desk.say("book"), before)

    def test_put_and_take_tell_gained_and_lost_words(self):
        desk = Desk()
        self.assertEqual(desk.say("put pen = ink"), "+ -")
        self.assertEqual(desk.say("put ink = *"), "+ ink pen -")
        self.assertEqual(desk.say("put cap = zebra"), "+ -")
        self.assertEqual(desk.say("take cap = zebra"), "+ -")
        self.assertEqual(desk.say("take ink = *"), "+ - ink pen")

    def test_back(self):
        desk = Desk()
        desk.say("put pen = ink")
        desk.say("put ink = *")
        desk.say("take pen = ink")
        self.assertEqual(desk.say("back"), "+ pen -")
        self.assertEqual(desk.say("book"), "pen = ink;ink = *")
        self.assertEqual(desk.say("back"), "+ - ink pen")
        self.assertEqual(desk.say("back"), "+ -")
        self.assert_refused(desk, NoDeed, "back", "back")
        self.assertEqual(desk.say("put ink = *"), "+ ink -")

    def test_back_and_book_on_a_desk_without_rows(self):
        self.assertEqual(Desk().say("book"), "")
        self.assert_refused(Desk(), NoDeed, "back")

    def test_a_row_taken_out_by_its_words_in_another_order(self):
        desk = desk_with(ROWS)
        self.assertEqual(desk.say("take pen = ink tube"), "+ - pen")
        self.assertEqual(desk.say("book"), ";".join(ROWS[:2] + ROWS[3:]))
        self.assertEqual(desk.say("back"), "+ pen -")
        self.assertEqual(desk.say("book"), ";".join(ROWS))

    def test_unfit_rows(self):
        desk = desk_with(ROWS)
        self.assert_refused(desk, Unfit, "put ink = *", "put pen = ink tube", "put jar = ink ink",
                            "put jar = a b c d e f g h i")

    def test_rows_that_are_not_there(self):
        desk = desk_with(ROWS)
        self.assert_refused(desk, NoRow, "take zebra = *", "take ink = pen", "take pen = ink", "take pen = ink ink",
                            "take pen = tube ink ink", "take jar = a b c d e f g h i")
        self.assert_refused(Desk(), NoRow, "take ink = *")

    def test_sixty_rows(self):
        desk = desk_with([name + " = *" for name in names(60)])
        self.assert_refused(desk, TooMany, "put zz = *", "put aa = ab")
        self.assert_refused(desk, Unfit, "put aa = *", "put aa = ab ab")
        self.assert_refused(desk, NoText, "put zz = ")

    def test_desks_are_apart(self):
        one = desk_with(ROWS)
        other = Desk()
        self.assertEqual(other.say("book"), "")
        other.say("put zebra = *")
        self.assertEqual(one.say("book"), ";".join(ROWS))
        self.assertEqual(other.say("learnt"), "zebra")

    def test_refused_texts_are_no_deeds(self):
        desk = desk_with(["ink = *"])
        for text in ["put ink = *", "take pen = ink", "put", "round zebra", "zebra"]:
            with self.assertRaises(ValueError):
                desk.say(text)
        self.assertEqual(desk.say("back"), "+ - ink")
        self.assert_refused(desk, NoDeed, "back")

    def test_texts_that_are_none_of_these(self):
        desk = desk_with(ROWS)
        self.assert_refused(desk, NoText, "", " ", "  ", "-", "+", "*", "=", "zebra", "ink", "ink = *", "put", "take", "PUT ink = *",
                            "say book", "help", "rounds ink", "prices ink", "knot ink", "order", "shelf", "deeds")

    def test_blanks_too_many_or_too_few(self):
        desk = desk_with(ROWS)
        for word in ["back", "learnt", "lacks", "need", "book"]:
            self.assert_refused(desk, NoText, word + " ", " " + word, word + "  ", word + " ink", word + word, word + "\t")
        for word in ASKING:
            self.assert_refused(desk, NoText, word, word + " ", word + "  ink", word + " ink ", " " + word + " ink",
                                word + "ink", word + " ink pen", word + "\tink", word + " ink\t", word + " ")
        for word in ["put", "take"]:
            self.assert_refused(desk, NoText, word, word + " ", word + "  ink = *", word + " ink = * ", " " + word + " ink = *",
                                word + " ink  = *", word + " ink =  *", word + " ink=*", word + " ink =*", word + " ink= *",
                                word + "ink = *", word + " pen = tube  ink", word + " ink", word + " ink =",
                                word + " ink = ", word + " = *", word + " pen = * ink", word + " pen = ink *",
                                word + " pen = = ink", word + " pen ink", word + " ink = *;pen = *")

    def test_line_feeds(self):
        desk = desk_with(ROWS)
        for text in ["back", "learnt", "lacks", "need", "book", "put zebra = *", "take ink = *", "why ink", "round ink"]:
            self.assert_refused(desk, NoText, text + "\n", "\n" + text, text + "\n" + text, text.replace(" ", "\n", 1) + "\n")
        self.assert_refused(desk, NoText, "\n", "put zebra = *\nhorse = *", "put zebra = ink\nhorse = *", "why\nink")

    def test_capital_letters_and_words_that_are_none(self):
        desk = desk_with(ROWS)
        self.assert_refused(desk, NoText, "Book", "BOOK", "Learnt", "Put zebra = *", "Why ink", "WHY ink")
        for text in ["Ink", "INK", "ink/1", "ink/02", "ink/100", "ninewords", "*", "=", "ink/", "7", "-"]:
            for word in ASKING:
                self.assert_refused(desk, NoText, word + " " + text)
            for word in ["put", "take"]:
                self.assert_refused(desk, NoText, word + " " + text + " = *", word + " pen = ink " + text)
                if text != "*":
                    self.assert_refused(desk, NoText, word + " pen = " + text)

    def test_things_that_are_no_texts(self):
        desk = desk_with(ROWS)
        self.assert_refused(desk, NoText, None, 0, 7, True, [], (), ["book"], ("book",), {}, [None], object())

    def test_no_text_goes_ahead_of_all(self):
        desk = desk_with(ROWS)
        self.assert_refused(desk, NoText, "round zebra ", "price Zebra", "put ink = ink ink ", "take zebra = ")
        self.assert_refused(Desk(), NoText, "back ", " back", "back\n")

    def test_words_called_like_the_desks_own(self):
        words = ["put", "take", "back", "learnt", "lacks", "need", "book"] + ASKING + ["by", "knot"]
        desk = Desk()
        for word in words:
            self.assertEqual(desk.say("put " + word + " = *"), "+ " + word + " -")
        for word in words:
            self.assertEqual(desk.say("why " + word), "by *")
            self.assertEqual(desk.say("round " + word), "0")
            self.assertEqual(desk.say("over " + word), "-")
        self.assertEqual(desk.say("learnt"), " ".join(sorted(words)))
        self.assertEqual(desk.say("take put = *"), "+ - put")
        self.assertEqual(desk.say("put put = take put"), "+ -")
        self.assertEqual(desk.say("under put"), "put take")
        self.assertEqual(desk.say("back"), "+ -")


class QuestionsTest(unittest.TestCase):
    def setUp(self):
        self.desk = desk_with(ROWS)

    def refused(self, wanted, *texts):
        for text in texts:
            refused_with(self, wanted, self.desk.say, text)

    def test_learnt_and_lacks(self):
        self.assertEqual(self.desk.say("learnt"), "glass ink pen tube")
        self.assertEqual(self.desk.say("lacks"), "quill water")

    def test_lists_without_words(self):
        desk = Desk()
        self.assertEqual([desk.say("learnt"), desk.say("lacks"), desk.say("need")], ["-", "-", "-"])
        desk.say("put ink = *")
        self.assertEqual([desk.say("under ink"), desk.say("over ink"), desk.say("musts ink")], ["-", "-", "-"])
        self.assertEqual([desk.say("lacks"), desk.say("need")], ["-", "-"])

    def test_round_and_price(self):
        self.assertEqual([self.desk.say("round " + word) for word in ["ink", "glass", "tube", "pen"]], ["0", "1", "2", "3"])
        self.assertEqual([self.desk.say("price " + word) for word in ["ink", "glass", "tube", "pen"]], ["1", "2", "3", "5"])

    def test_read(self):
        self.assertEqual(self.desk.say("read ink"), "ink")
        self.assertEqual(self.desk.say("read pen"), "ink glass tube ink pen")

    def test_under_over_and_musts(self):
        self.assertEqual(self.desk.say("under pen"), "glass ink quill tube")
        self.assertEqual(self.desk.say("over ink"), "glass pen tube")
        self.assertEqual(self.desk.say("under cap"), "cap")
        self.assertEqual(self.desk.say("musts pen"), "glass ink tube")

    def test_why(self):
        self.assertEqual(self.desk.say("why ink"), "by *")
        self.assertEqual(self.desk.say("why pen"), "by tube ink")
        self.assertEqual(self.desk.say("why water"), "knot cap quill river water")
        self.assertEqual(self.desk.say("why cap"), "knot cap quill river water")

    def test_why_of_a_word_with_several_rows(self):
        desk = desk_with(["b = a", "a = b", "a = *", "c = b a", "c = a", "d = d a", "d = c", "d = b a"])
        self.assertEqual(desk.say("why a"), "by *")
        self.assertEqual(desk.say("why c"), "by a")
        self.assertEqual(desk.say("round c"), "1")
        self.assertIn(desk.say("why d"), ["by c", "by b a"])

    def test_need(self):
        desk = desk_with(["ink = *", "a = b", "b = a", "c = z"])
        self.assertIn(desk.say("need"), ["a z", "b z"])

    def test_need_of_six_words_that_are_not_learnt(self):
        desk = desk_with(["a = b c d e"])
        self.assertEqual(desk.say("need"), "b c d e")
        desk.say("put a = f")
        refused_with(self, TooMany, desk.say, "need")

    def test_book(self):
        self.assertEqual(self.desk.say("book"), ";".join(ROWS))
        self.assertEqual(desk_with(["ink = *"]).say("book"), "ink = *")

    def test_words_that_the_book_has_not(self):
        for word in ASKING:
            self.refused(Unknown, word + " zebra", word + " ink/2")
            refused_with(self, Unknown, Desk().say, word + " ink")

    def test_words_that_are_not_learnt(self):
        for word in ["round", "price", "read", "musts"]:
            self.refused(Unlearnt, word + " river", word + " water", word + " cap")

    def test_readings_that_are_too_long(self):
        desk = desk_of(chain(60, 8))
        refused_with(self, TooMany, desk.say, "read ch")
        self.assertEqual(desk.say("price ch"), str(slow_prices(chain(60, 8))["ch"]))
        self.assertEqual(desk.say("round ch"), "59")

    def test_nothing_hangs_on_what_was_asked_before(self):
        texts = ["learnt", "lacks", "round pen", "price pen", "read pen", "under pen", "over ink", "musts pen", "why pen",
                 "why cap", "need", "book"]
        first = [self.desk.say(text) for text in texts]
        self.assertEqual([self.desk.say(text) for text in reversed(texts)], list(reversed(first)))
        self.assertEqual({type(answer) for answer in first}, {str})
        self.desk.say("put zebra = *")
        self.desk.say("back")
        self.assertEqual([self.desk.say(text) for text in texts], first)


class ManyDesksTest(unittest.TestCase):
    def assert_reason(self, book, word, answer):
        layers = slow_rounds(book)
        known = [words for words in layers if word in words]
        if not known:
            unlearnt = sorted(set(all_words(book)) - set(slow_learnt(book)))
            self.assertEqual(answer, "knot " + " ".join(unlearnt))
            return
        ahead = {each for words in layers[:layers.index(known[0])] for each in words}
        fitting = ["by " + (" ".join(told) or "*") for other, told in book if other == word and ahead.issuperset(told)]
        self.assertIn(answer, fitting, book)

    def assert_answers_about(self, desk, book, word):
        below = slow_under(book, word)
        self.assertEqual(desk.say("under " + word), listed(below))
        self.assertEqual(desk.say("over " + word),
                         listed([other for other in all_words(book) if word in slow_under(book, other)]))
        self.assert_reason(book, word, desk.say("why " + word))
        if word not in slow_learnt(book):
            for question in ["round", "price", "read", "musts"]:
                refused_with(self, Unlearnt, desk.say, question + " " + word)
            return
        layers = slow_rounds(book)
        self.assertEqual(desk.say("round " + word), str([word in words for words in layers].index(True)))
        self.assertEqual(desk.say("price " + word), str(slow_prices(book)[word]))
        wanted = [other for other in all_words(book) if other != word
                  and word not in slow_learnt(tuple(row for row in book if row[0] != other))]
        self.assertEqual(desk.say("musts " + word), listed(wanted))
        self.assert_read(desk.say("read " + word).split(" "), book, word)

    def assert_read(self, words, book, word):
        self.assertEqual(len(words), slow_prices(book)[word])
        self.assertIn(0, reading_starts(book, word, words, len(words)), (book, words))

    def test_many_books(self):
        for book in many_books(40):
            desk = desk_of(book)
            self.assertEqual(desk.say("book"), shown(book).replace("\n", ";"))
            self.assertEqual(desk.say("learnt"), listed(slow_learnt(book)))
            self.assertEqual(desk.say("lacks"), listed(sorted(set(all_words(book)) - {row[0] for row in book})))
            for word in all_words(book):
                self.assert_answers_about(desk, book, word)
            if len(all_words(book)) - len(slow_learnt(book)) > 5:
                refused_with(self, TooMany, desk.say, "need")
            else:
                words = [word for word in desk.say("need").split(" ") if word != "-"]
                self.assertEqual(words, sorted(words))
                self.assertTrue(slow_suffice(book, words))
                self.assertEqual(len(words), len(fewest(book)[0]))

    def test_a_long_row(self):
        desk = desk_with(["zz = " + " ".join(EIGHT)] + [word + " = *" for word in EIGHT])
        self.assertEqual(desk.say("why zz"), "by a b c d e f g h")
        self.assertEqual(desk.say("read zz"), "a b c d e f g h zz")


if __name__ == "__main__":
    unittest.main()
