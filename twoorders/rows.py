"""Rows, which are tuples (number, rank, text), and what the two orders place them by."""

from twoorders.errors import NoOrder

RANK_WORD = "rank"
TEXT_WORD = "text"


def check_word(word):
    if word != RANK_WORD and word != TEXT_WORD:
        raise NoOrder(f"no order has the word {word!r}")


def lead_of(word, row):
    if word == RANK_WORD:
        return row[1]
    return row[2]


# The rest of the row stays out: no two rows have one number, so it never decides.
def key_of(word, row):
    return (lead_of(word, row), row[0])
