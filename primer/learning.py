"""Learning: which words can be learnt from a book, in which rounds and in which order."""

from primer.books import gathered, words_of
from primer.errors import Unlearnt


def places_that_tell(book):
    pairs = []
    for place, row in enumerate(book):
        pairs.extend([(word, place) for word in row[1]])
    return gathered(pairs)


def new_steps(book, places, known):
    steps = {}
    for place in places:
        word = book[place][0]
        if word not in known and word not in steps:
            steps[word] = place
    return sorted(steps.items())


# The rounds as lists of steps (word, place): the place is that of a row that tells words of earlier rounds alone.
def steps_in_rounds(book):
    tellers = places_that_tell(book)
    # Counted down, so that a row is looked at once for each word it tells and not in every round.
    missing = [len(row[1]) for row in book]
    known = {}
    found = []
    ready = [place for place, number in enumerate(missing) if number == 0]
    while ready != []:
        steps = new_steps(book, ready, known)
        ready = []
        for word, place in steps:
            known[word] = True
            for teller in tellers.get(word, []):
                missing[teller] -= 1
                if missing[teller] == 0:
                    ready.append(teller)
        if steps != []:
            found.append(steps)
    return found


def rounds(book):
    found = []
    for steps in steps_in_rounds(book):
        found.append([word for word, place in steps])
    return found


def order(book):
    found = []
    for steps in steps_in_rounds(book):
        found.extend(steps)
    return found


def learnt(book):
    return sorted([word for word, place in order(book)])


def not_learnt(book):
    return sorted(set(words_of(book)) - set(learnt(book)))


def refuse_unlearnt(book, word):
    if word not in learnt(book):
        raise Unlearnt(f"the word {word} can't be learnt")


def is_step(book, step, known):
    word = step[0]
    place = step[1]
    # Asked ahead of any index: Python would take a place below 0 as one from the end.
    if place < 0 or place >= len(book):
        return False
    row = book[place]
    return row[0] == word and word not in known and all([each in known for each in row[1]])


def is_order(book, steps):
    known = {}
    for step in steps:
        if not is_step(book, step, known):
            return False
        known[step[0]] = True
    return True
