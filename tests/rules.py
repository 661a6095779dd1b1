"""Rules of the document and material for tests, written apart from the program."""

from itertools import combinations
from random import Random


def rule_double(a):
    """Point 4."""
    return 2 * a if 2 * a < 256 else (2 * a) ^ 285


def rule_product(a, b):
    """Point 4, step by step."""
    total = 0
    for bit in f"{b:08b}"[::-1]:
        if bit == "1":
            total ^= a
        a = rule_double(a)
    return total


PRODUCTS = [[rule_product(a, b) for b in range(256)] for a in range(256)]
INVERSES = [None] + [PRODUCTS[a].index(1) for a in range(1, 256)]


def rule_weight(x, places, i):
    """Point 6."""
    total = 1
    for j in places:
        if j != i:
            total = PRODUCTS[total][PRODUCTS[x ^ j][INVERSES[i ^ j]]]
    return total


def rule_word(given, n):
    """Point 6: the word of n sectors through the given ones."""
    word = []
    for x in range(n):
        sector = [0] * 32
        for i in given:
            row = PRODUCTS[rule_weight(x, list(given), i)]
            sector = [byte ^ row[other] for byte, other in zip(sector, given[i])]
        word.append(sector)
    return word


def rule_accepted(cells, k, s):
    """Point 7: every word that k of the sectors make is tried."""
    met = {x: cell for x, cell in enumerate(cells) if cell is not None}
    for places in combinations(met, k):
        word = rule_word({x: met[x] for x in places}, len(cells))
        equal = sum(word[x] == met[x] for x in met)
        if equal >= k + s and equal >= len(met) - s:
            return word
    return None


def rule_read(cells, k, s):
    """Point 8."""
    met = {}
    for x, cell in enumerate(cells):
        if cell is not None:
            met[x] = cell
        if len(met) == k + s:
            word = rule_word({y: met[y] for y in list(met)[:k]}, len(cells))
            if all(word[y] == met[y] for y in met):
                return word, x + 1
            break
    return rule_accepted(cells, k, s), len(cells)


def sector(seed):
    """Some sector; another one for another seed."""
    return Random(seed).choices(range(256), k=32)


def changed(old, x=0):
    """A sector that differs in one byte only, for another x in another one."""
    return [byte ^ 1 if j == 31 - x else byte for j, byte in enumerate(old)]


def curve_word(n, k, seed):
    """The n values of a polynomial of k sectors: a word, since any k values tell the others."""
    coefficients = [sector(1000 * seed + power) for power in range(k)]
    word = []
    for x in range(n):
        total = [0] * 32
        for part in reversed(coefficients):
            total = [PRODUCTS[x][byte] ^ other for byte, other in zip(total, part)]
        word.append(total)
    return word


def near_word(word, k, seed):
    """Another word, which shares k - 1 sectors with this one, at the places from 1 on."""
    parts = {x: word[x] for x in range(1, k)}
    parts[0] = sector(seed)
    return rule_word(parts, len(word))


def with_holes(cells, places):
    """The cells, of which those at the places cannot be read."""
    return [None if x in places else cell for x, cell in enumerate(cells)]


def with_faults(cells, places):
    """The cells, of which those at the places hold something else, never of one word."""
    return [changed(cell, x) if x in places else cell for x, cell in enumerate(cells)]


def sizes():
    """All n and k."""
    return [(n, k) for n in range(4, 9) for k in range(1, n)]


def depths():
    """All n, k and s."""
    return [(n, k, s) for n, k in sizes() for s in range(1, n - k + 1)]


def damaged(n, k, seed):
    """Cells of a word, some of them gone, changed or those of a word near by."""
    random = Random(seed)
    word = curve_word(n, k, seed % 5)
    near = near_word(word, k, seed)
    common = random.choice([1, 3, 8])
    cells = []
    for x in range(n):
        wrong = [None, changed(word[x]), changed(word[x], x), near[x]]
        cells.append(random.choice([word[x]] * common + wrong))
    return cells
