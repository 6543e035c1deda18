"""Prices: how long the shortest readings of the learnt words are, and by which rows."""


def row_price(row, found):
    return 1 + sum([found[word][0] for word in row[1]])


# For each learnt word its price and the place of a best row. A row is gone through again as long as any price falls,
# for a word that is learnt early by a dear row may have a cheaper one whose words are learnt later.
def prices_and_places(book):
    found = {}
    fallen = True
    while fallen:
        fallen = False
        for place, row in enumerate(book):
            if all([word in found for word in row[1]]):
                price = row_price(row, found)
                if row[0] not in found or price < found[row[0]][0]:
                    found[row[0]] = (price, place)
                    fallen = True
    return found


def prices(book):
    return sorted([(word, pair[0]) for word, pair in prices_and_places(book).items()])


def best_rows(book):
    return sorted([(word, pair[1]) for word, pair in prices_and_places(book).items()])
