import string
import unittest

from primer.words import is_word, sense_of, stem_of


class IsWordTest(unittest.TestCase):
    def assert_words(self, texts):
        for text in texts:
            with self.subTest(text=text):
                self.assertIs(is_word(text), True)

    def assert_no_words(self, texts):
        for text in texts:
            with self.subTest(text=text):
                self.assertIs(is_word(text), False)

    def test_ordinary_words(self):
        self.assert_words(["bank", "bank/2", "ink", "pen/17"])

    def test_stems_from_one_to_eight_letters(self):
        for length in range(1, 9):
            self.assert_words(["a" * length, "z" * length, "m" * length + "/2", "m" * length + "/99"])

    def test_stems_of_no_letter_or_more_than_eight(self):
        self.assert_no_words(["", "/2", "/", "a" * 9, "a" * 9 + "/2", "z" * 10, "a" * 100000])

    def test_every_small_letter_and_no_other_sign(self):
        for code in range(0x3000):
            sign = chr(code)
            is_letter = sign in string.ascii_lowercase
            self.assertIs(is_word(sign), is_letter, code)
            self.assertIs(is_word("a" + sign + "b"), is_letter, code)
            self.assertIs(is_word("b" + sign + "/2"), is_letter, code)

    def test_signs_beside_a_word(self):
        for sign in [" ", "\n", "\t", "\r", "\0", "-", "_", ".", "*", "=", ";", "A", "\u00e9", "\uff41", "\U0001d41a"]:
            self.assert_no_words([sign, sign + "bank", "bank" + sign, "ba" + sign + "nk"])
            self.assert_no_words([sign + "bank/2", "bank" + sign + "/2", "bank/" + sign + "2", "bank/2" + sign])

    def test_capital_letters(self):
        self.assert_no_words(["Bank", "BANK", "banK", "bAnk", "Bank/2"])

    def test_figures_in_the_stem(self):
        self.assert_no_words(["1", "bank2", "2bank", "ba2nk", "2/2"])

    def test_numbers_from_2_to_99(self):
        for number in range(0, 1200):
            with self.subTest(number=number):
                self.assertIs(is_word("bank/" + str(number)), 2 <= number <= 99)

    def test_numbers_at_the_edges(self):
        self.assert_words(["bank/2", "bank/9", "bank/10", "bank/99"])
        self.assert_no_words(["bank/0", "bank/1", "bank/100", "bank/101", "bank/999"])

    def test_numbers_with_a_0_ahead(self):
        self.assert_no_words(["bank/00", "bank/01", "bank/02", "bank/09", "bank/010", "bank/002", "bank/099"])

    def test_what_int_would_take_but_is_no_number_here(self):
        self.assert_no_words(["bank/-2", "bank/+2", "bank/1_0", "bank/ 2", "bank/2 ", "bank/\u0662", "bank/\uff12"])
        self.assert_no_words(["bank/1\u0662", "bank/\u00b2"])

    def test_slashes_with_no_number_or_too_many(self):
        self.assert_no_words(["bank/", "bank//", "bank//2", "bank/2/", "bank/2/3", "/bank", "/bank/2", "bank/a"])
        self.assert_no_words(["bank/two", "bank/2a", "bank\\2", "bank:2"])


class StemAndSenseTest(unittest.TestCase):
    def test_first_sense(self):
        self.assertEqual((stem_of("bank"), sense_of("bank")), ("bank", 1))
        self.assertEqual((stem_of("a"), sense_of("a")), ("a", 1))
        self.assertEqual((stem_of("abcdefgh"), sense_of("abcdefgh")), ("abcdefgh", 1))

    def test_later_senses(self):
        for number in range(2, 100):
            word = "bank/" + str(number)
            self.assertEqual((stem_of(word), sense_of(word)), ("bank", number))

    def test_longest_stem_with_a_sense(self):
        self.assertEqual((stem_of("abcdefgh/10"), sense_of("abcdefgh/10")), ("abcdefgh", 10))

    def test_kinds(self):
        for word in ["bank", "bank/2"]:
            self.assertIs(type(stem_of(word)), str)
            self.assertIs(type(sense_of(word)), int)


if __name__ == "__main__":
    unittest.main()
