import unittest

from helper import EIGHT, many_books, names, picture_rows, refused_with

from primer.errors import NoText, Unfit
from primer.reader import read
from primer.writer import shown

BOOK = (
    ("ink", ()),
    ("pen", ("ink", "tube")),
    ("bank/2", ("river", "pen/10")),
    ("pen", ("pen",)),
)
TEXT = "ink = *\npen = ink tube\nbank/2 = river pen/10\npen = pen"


class ReadTest(unittest.TestCase):
    def assert_no_text(self, *things):
        for thing in things:
            with self.subTest(thing=thing):
                refused_with(self, NoText, read, thing)

    def assert_unfit(self, *texts):
        for text in texts:
            with self.subTest(text=text):
                refused_with(self, Unfit, read, text)

    def test_an_ordinary_book(self):
        self.assertEqual(read(TEXT), BOOK)
        self.assertEqual(shown(BOOK), TEXT)

    def test_the_book_without_rows_and_the_text_without_signs(self):
        self.assertEqual(read(""), ())
        self.assertEqual(shown(()), "")

    def test_kinds(self):
        book = read(TEXT)
        self.assertIs(type(book), tuple)
        for row in book:
            self.assertEqual([type(row), type(row[0]), type(row[1])], [tuple, str, tuple])
        self.assertIs(type(shown(book)), str)

    def test_a_picture(self):
        self.assertEqual(read("ink = *"), (("ink", ()),))
        self.assertEqual(shown((("ink", ()),)), "ink = *")

    def test_words_told_keep_their_order(self):
        self.assertEqual(read("pen = z b a y"), (("pen", ("z", "b", "a", "y")),))
        self.assertEqual(shown((("pen", ("z", "b", "a", "y")),)), "pen = z b a y")

    def test_eight_words_told(self):
        self.assertEqual(read("pen = a b c d e f g h"), (("pen", EIGHT),))
        self.assertEqual(read("a = a b c d e f g h"), (("a", EIGHT),))

    def test_shown_books_are_read_again(self):
        for book in many_books():
            self.assertEqual(read(shown(book)), book)
            self.assertEqual(shown(read(shown(book))), shown(book))

    def test_things_that_are_no_texts(self):
        self.assert_no_text(0, 1, -7, None, True, False, [], (), ["ink = *"], ("ink = *",), BOOK, {}, [TEXT], object())

    def test_blanks_too_many(self):
        self.assert_no_text(" ", "  ", " ink = *", "ink = * ", "ink  = *", "ink =  *")
        self.assert_no_text(" pen = ink tube", "pen = ink tube ", "pen  = ink tube", "pen =  ink tube", "pen = ink  tube")
        self.assert_no_text("ink = *\n pen = ink", "ink = * \npen = ink", "ink = *\npen = ink ", "ink = *\n \npen = ink")

    def test_blanks_too_few(self):
        self.assert_no_text("ink=*", "ink =*", "ink= *", "pen=ink tube", "pen =ink tube", "pen= ink tube")

    def test_line_feeds_too_many(self):
        self.assert_no_text("\n", "\n\n", "ink = *\n", "\nink = *", "ink = *\n\npen = ink", TEXT + "\n", "\n" + TEXT)
        self.assert_no_text("ink =\n*", "ink\n= *", "pen = ink\ntube", "pen = ink \ntube")

    def test_other_white_signs(self):
        for sign in ["\t", "\r", "\v", "\f", "\r\n", "\u00a0", "\u2028", "\x85", "\0"]:
            self.assert_no_text(sign, "ink = *" + sign, sign + "ink = *", "ink" + sign + "= *", "ink =" + sign + "*")
            self.assert_no_text("ink = *" + sign + "pen = ink", "pen = ink" + sign + "tube")

    def test_the_sign_between_left_out_or_twice(self):
        self.assert_no_text("=", " = ", "= *", "= ink", " = ink", "ink =", "ink = ", "ink", "ink *", "ink ink", "*", "* = *")
        self.assert_no_text("ink = = *", "pen = = ink", "pen = ink =", "pen = ink = tube", "pen == ink", "pen : ink")

    def test_the_picture_sign_beside_words(self):
        self.assert_no_text("pen = * ink", "pen = ink *", "pen = ink * tube", "pen = * *", "pen = **", "pen = ink*")
        self.assert_no_text("* = ink", "*pen = ink")

    def test_words_that_are_none(self):
        for text in ["Ink", "ink/1", "ink/0", "ink/02", "ink/100", "ink/", "/2", "ninewords", "7", "in-k", "ink/2/2", "-"]:
            self.assert_no_text(text + " = *", "pen = " + text, "pen = ink " + text, "pen = " + text + " ink")
            self.assert_no_text(text + " = ink", "ink = *\n" + text + " = ink", text + " = ink\nink = *")

    def test_other_partings(self):
        self.assert_no_text("ink = *;pen = ink", "pen = ink,tube", "pen = ink, tube", "ink = * pen = ink")

    def test_nine_words_told(self):
        self.assert_unfit("pen = a b c d e f g h i", "a = a b c d e f g h i", "pen = " + " ".join(names(600)))

    def test_a_word_told_twice(self):
        self.assert_unfit("pen = ink ink", "pen = ink tube ink", "pen = pen pen", "ink = *\npen = ink ink")

    def test_rows_that_are_alike(self):
        self.assert_unfit("ink = *\nink = *", "pen = ink tube\npen = tube ink", "pen = ink\ntube = *\npen = ink")

    def test_sixty_rows_and_sixty_one(self):
        text = "\n".join([name + " = *" for name in names(61)])
        self.assertEqual(read(text[:text.rindex("\n")]), picture_rows(60))
        self.assertEqual(len(read(text[:text.rindex("\n")])), 60)
        self.assert_unfit(text)
        self.assert_unfit("\n".join(["ink = *"] * 1200))

    def test_no_text_goes_first(self):
        faults = ["pen = ink ink", "pen = a b c d e f g h i", "ink = *\nink = *", "\n".join(["ink = *"] * 61)]
        for text in faults:
            self.assert_unfit(text)
            self.assert_no_text(text + "\n", "\n" + text, text + " ", " " + text, text + "\nPen = ink", "pen\n" + text)
            self.assert_no_text(text + "\ntube = ink ink =")

    def test_long_texts(self):
        row = "pen = " + " ".join(["abcdefgh/99"] * 800)
        self.assert_unfit(row)
        self.assert_no_text(row + " ", "a" * 10000, " " * 10000, "\n" * 10000, "= " * 5000)

    def test_longest_book(self):
        words = ["abcdefg" + letter + "/" + str(number) for letter in "ab" for number in range(10, 40)]
        book = tuple((word, tuple(words[k % 50:k % 50 + 8])) for k, word in enumerate(words))
        self.assertEqual(len(book), 60)
        self.assertEqual(read(shown(book)), book)

    def test_nothing_hangs_on_what_was_asked_before(self):
        self.assertEqual(read(TEXT), BOOK)
        self.assert_no_text("ink")
        self.assert_unfit("pen = ink ink")
        self.assertEqual(read(TEXT), BOOK)
        self.assertEqual(read(""), ())


if __name__ == "__main__":
    unittest.main()
