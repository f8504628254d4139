"""Questions to a store by its orders; a word that no order has is refused ahead of all else."""

from twoorders.rows import RANK_WORD, check_word, key_of


def order_of(store, word):
    check_word(word)
    if word == RANK_WORD:
        return store.by_rank
    return store.by_text


def rows_within(store, word, low, high):
    return order_of(store, word).between(low, high)


# Of one text there are mostly fewer rows than between two ranks, so the order by text is asked.
def rows_of_text(store, low, high, text):
    found = [row for row in store.by_text.between(text, text) if row[1] >= low and row[1] <= high]
    return sorted(found, key=rank_key)


def rank_key(row):
    return key_of(RANK_WORD, row)


def rows_from(store, word, spot, many):
    found = []
    end = spot + many
    ahead = 0
    # Blocks ahead of the spot are passed by their lengths, without a look at their rows.
    for block in order_of(store, word).blocks:
        if ahead >= end:
            return found
        found.extend(block[max(spot - ahead, 0):end - ahead])
        ahead = ahead + len(block)
    return found


def spot_of(store, word, number):
    order = order_of(store, word)
    return order.ahead_of(store.row_of(number))
