"""Words: the sectors of a stripe, any k of which tell all others."""

from itertools import combinations

from rotward.field import inverse, product, products

SECTOR = 32


def weight(x, places, i):
    """The weight at the place x of the given place i among all given places."""
    above = 1
    below = 1
    for j in places:
        if j != i:
            above = product(above, x ^ j)
            below = product(below, i ^ j)
    # Inverting is slow, and the product of inverses is the inverse of the product.
    return product(above, inverse(below))


def sector_at(x, given):
    """The sector at the place x of the word that has the given sectors at their places."""
    places = list(given)
    total = [0] * SECTOR
    for i in places:
        row = products(weight(x, places, i))
        total = [byte ^ row[other] for byte, other in zip(total, given[i])]
    return total


def word_through(given, n):
    """The word of n sectors that has the given sectors at their places."""
    return [list(given[x]) if x in given else sector_at(x, given) for x in range(n)]


def make_word(parts, n):
    """The word of n sectors that is made of k sectors."""
    return word_through(dict(enumerate(parts)), n)


def readable(cells, most):
    """The places of the first cells that can be read, at most so many of them."""
    places = []
    for x in range(len(cells)):
        if len(places) < most and cells[x] is not None:
            places.append(x)
    return places


def accepted(cells, k, s):
    """The word that is accepted, or None."""
    places = readable(cells, len(cells))
    spare = min(s, len(places) - k - s)
    if spare < 0:
        return None
    # At most `spare` sectors may differ from the word, so at least k of the first
    # k + spare are the word's: no other sectors need to be tried.
    first = places[:k + spare]
    for some in combinations(first, k):
        word = word_through({x: cells[x] for x in some}, len(cells))
        if len([x for x in places if word[x] != cells[x]]) <= spare:
            return word
    return None


def read_word(cells, k, s):
    """The word that reading tells, or None, and the number of cells that were looked at."""
    places = readable(cells, k + s)
    if len(places) == k + s:
        word = word_through({x: cells[x] for x in places[:k]}, len(cells))
        if all([word[x] == cells[x] for x in places]):
            return word, places[-1] + 1
    return accepted(cells, k, s), len(cells)


def vote(cells, s):
    """The content of a sector that all disks hold, as a vote tells it, or None."""
    read = [cell for cell in cells if cell is not None]
    for cell in read:
        votes = read.count(cell)
        if votes > s and len(read) - votes <= s:
            return list(cell)
    return None
