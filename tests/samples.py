"""What several tests need: rows to try, and the document's words on orders written out slowly."""

import random

WORDS = ("rank", "text")
BIGGEST = 10 ** 32 - 1
TEXTS = ("", " ", "  ", "!", "0", "10", "9", "A", "AA", "B", "Z", "Za", "a", "aA", "aa", "b", "z", "~", "~~",
         "a" * 99, "a" * 100, "~" * 100)
RANKS = (0, 1, -1, 2, -2, 9, 10, -9, -10, BIGGEST, BIGGEST - 1, -BIGGEST, 1 - BIGGEST, 10 ** 31, -(10 ** 31))


def lead(word, row):
    return row[1] if word == "rank" else row[2]


def key(word, row):
    return (lead(word, row), row[0])


def in_order(word, rows):
    return sorted(rows, key=lambda row: key(word, row))


def ahead(word, rows, row):
    return len([other for other in rows if key(word, other) < key(word, row)])


def within(word, rows, low, high):
    return [row for row in in_order(word, rows) if low <= lead(word, row) <= high]


def some_numbers(chance, many):
    numbers = {}
    while len(numbers) < many:
        pick = chance.choice((chance.randint(-many, many), chance.randint(-BIGGEST, BIGGEST),
                              BIGGEST - chance.randint(0, many), chance.randint(0, many) - BIGGEST))
        numbers[pick] = True
    return list(numbers)


def some_rows(seed, many):
    """Rows whose ranks and texts come more than once, in no order; the same for the same seed."""
    chance = random.Random(seed)
    return [(number, chance.choice(RANKS), chance.choice(TEXTS)) for number in some_numbers(chance, many)]
