"""Words: a stem of small letters and, for a later sense, a number behind a "/"."""

LETTERS = "abcdefghijklmnopqrstuvwxyz"
LONGEST_STEM = 8
FIRST_SENSE = 1
LAST_SENSE = 99


def is_stem(text):
    if text == "" or len(text) > LONGEST_STEM:
        return False
    return all([sign in LETTERS for sign in text])


def is_later_sense(text):
    # Compared as texts: int would also take a 0 ahead, blanks, and figures of other scripts.
    return text in [str(sense) for sense in range(FIRST_SENSE + 1, LAST_SENSE + 1)]


def is_word(text):
    if "/" not in text:
        return is_stem(text)
    return is_stem(stem_of(text)) and is_later_sense(number_of(text))


def stem_of(word):
    return word.partition("/")[0]


def number_of(word):
    return word.partition("/")[2]


def sense_of(word):
    number = number_of(word)
    if number == "":
        return FIRST_SENSE
    return int(number)
