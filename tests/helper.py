"""What several tests share: books to ask about, and the document's words gone along slowly and plainly."""

import random

LETTERS = "abcdefghijklmnopqrstuvwxyz"
EIGHT = ("a", "b", "c", "d", "e", "f", "g", "h")


def names(number):
    return [LETTERS[k // 26] + LETTERS[k % 26] for k in range(number)]


def picture_rows(number):
    return tuple((name, ()) for name in names(number))


def chain(number, width, backward=False):
    """So many rows, each of which tells the words of the rows ahead of it, as many as width; the first is a picture."""
    words = names(number)
    rows = [(word, tuple(words[max(0, k - width):k])) for k, word in enumerate(words)]
    return tuple(reversed(rows)) if backward else tuple(rows)


def random_book(chance, most_rows=9, letters="abcdefg", most_told=3, picture_share=0.2):
    rows = []
    seen = set()
    for _ in range(chance.randint(0, most_rows)):
        word = chance.choice(letters)
        number = 0 if chance.random() < picture_share else chance.randint(1, most_told)
        told = tuple(chance.sample(letters, number))
        key = (word, frozenset(told))
        if key not in seen:
            seen.add(key)
            rows.append((word, told))
    return tuple(rows)


def random_books(seed, number, **how):
    chance = random.Random(seed)
    return [random_book(chance, **how) for _ in range(number)]


def many_books(number=150):
    """Books of many shapes: few and many pictures, short and long rows, words with several rows, words that lack."""
    found = [(), (("a", ()),), (("a", ("a",)),), (("a", ("b",)),), (("a", ("b",)), ("b", ("a",)))]
    found += random_books(1, number)
    found += random_books(2, number, most_rows=14, letters="abcde", most_told=2, picture_share=0.1)
    found += random_books(3, number, most_rows=6, letters="abcdefghij", most_told=6, picture_share=0.4)
    found += random_books(4, number // 3, most_rows=30, letters=names(25), most_told=2, picture_share=0.15)
    return found


def all_words(book):
    found = set()
    for word, told in book:
        found.add(word)
        found.update(told)
    return sorted(found)


def slow_rounds(book):
    known = set()
    found = []
    while True:
        fresh = {word for word, told in book if word not in known and known.issuperset(told)}
        if not fresh:
            return found
        found.append(sorted(fresh))
        known |= fresh


def slow_learnt(book):
    return sorted(word for words in slow_rounds(book) for word in words)


def slow_is_order(book, steps):
    ahead = []
    for word, place in steps:
        if place not in range(len(book)) or book[place][0] != word or word in ahead:
            return False
        if not set(book[place][1]) <= set(ahead):
            return False
        ahead.append(word)
    return True


def refused_with(test, wanted, ask, *things):
    """The refusal is of just this class, and not of one above or beside it."""
    with test.assertRaises(ValueError) as caught:
        ask(*things)
    test.assertIs(type(caught.exception), wanted, things)


def own_answers(test, ask):
    """A told list is the asker's own: whatever is done to one changes no later answer."""
    first = ask()
    wanted = repr(first)
    spoil(first)
    test.assertEqual(repr(ask()), wanted)


def spoil(thing):
    if isinstance(thing, (list, tuple)):
        for part in thing:
            spoil(part)
    if isinstance(thing, list):
        thing.reverse()
        thing.append("spoilt")
        thing[0] = ("spoilt", 99)


def slow_is_knot(book, pairs):
    words = [word for word, blocks in pairs]
    if words != sorted(words) or len(set(words)) != len(words) or not set(words) <= set(all_words(book)):
        return False
    for word, blocks in pairs:
        rows = [told for other, told in book if other == word]
        if len(blocks) != len(rows):
            return False
        for block, told in zip(blocks, rows):
            if block not in told or block not in words:
                return False
    return True


def slow_prices(book):
    """The readings gone along from short to long: a price is found when no reading that is shorter is left."""
    found = {}
    while True:
        offers = [(1 + sum(found[each] for each in told), word) for word, told in book
                  if word not in found and all(each in found for each in told)]
        if not offers:
            return found
        price, word = min(offers)
        found[word] = price


def reading_end(book, word, places, end):
    """Where the reading of this word begins that ends ahead of end, or None where there is none."""
    end -= 1
    if end < 0 or places[end] not in range(len(book)) or book[places[end]][0] != word:
        return None
    for each in reversed(book[places[end]][1]):
        end = reading_end(book, each, places, end)
        if end is None:
            return None
    return end


def is_reading(book, word, places):
    return reading_end(book, word, places, len(places)) == 0


def slow_under(book, word):
    found = set()
    while True:
        more = {each for other, told in book if other == word or other in found for each in told}
        if more <= found:
            return sorted(found)
        found |= more


def slow_pictured(book, words):
    rows = list(book)
    for word in words:
        if (word, ()) not in rows:
            rows.append((word, ()))
    return tuple(rows)


def slow_suffice(book, words):
    return slow_learnt(slow_pictured(book, words)) == all_words(book)


def has_knot_of(book, words):
    """Whether some of these words, one at least, have a knot: they stay not learnt though all others are known."""
    left = set(words)
    while True:
        free = {word for word in left if any(other == word and not left & set(told) for other, told in book)}
        if not free:
            return bool(left)
        left -= free


def is_core(book, pairs):
    words = [word for word, blocks in pairs]
    if not words or not slow_is_knot(book, pairs):
        return False
    return not any(has_knot_of(book, [word for word in words if word != out]) for out in words)


def paper_shows(book, paper, given, left):
    if type(paper) is not tuple or len(paper) != 2:
        return False
    pairs, branches = paper
    if type(pairs) is not list or not pairs or not slow_is_knot(slow_pictured(book, given), pairs):
        return False
    if left == 0:
        return branches == ()
    if type(branches) is not tuple or [word for word, _ in branches] != [word for word, _ in pairs]:
        return False
    return all(type(branch) is tuple and paper_shows(book, branch[1], given + [branch[0]], left - 1)
               for branch in branches)
