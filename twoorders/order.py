"""An order: all rows by rank or by text, kept in blocks of a few rows, no two rows with one number."""

from twoorders.rows import check_word, key_of, lead_of

MOST_IN_A_BLOCK = 8
LEAST_IN_TWO_BLOCKS = 5


class Order:

    def __init__(self, word):
        check_word(word)
        self.word = word
        self.blocks = []

    def take_in(self, row):
        if len(self.blocks) == 0:
            self.blocks.append([row])
            return
        key = key_of(self.word, row)
        # Behind a row that is the last of all no block ends, so the last block takes it.
        place = min(self.blocks_ahead(key), len(self.blocks) - 1)
        block = self.blocks[place]
        block.insert(self.rows_ahead(block, key), row)
        if len(block) > MOST_IN_A_BLOCK:
            self.split_block(place)

    def let_out(self, row):
        place = self.blocks_ahead(key_of(self.word, row))
        block = self.blocks[place]
        block.remove(row)
        if len(block) > 0:
            self.join_if_few(place)
            self.join_if_few(place - 1)
        else:
            # Its neighbours had four rows or more each, since it had but one: nothing to join.
            self.blocks.pop(place)

    def rows(self):
        found = []
        for block in self.blocks:
            found.extend(block)
        return found

    def ahead_of(self, row):
        key = key_of(self.word, row)
        place = self.blocks_ahead(key)
        ahead = sum([len(block) for block in self.blocks[:place]])
        if place < len(self.blocks):
            ahead = ahead + self.rows_ahead(self.blocks[place], key)
        return ahead

    def between(self, low, high):
        found = []
        # A tuple of the lead alone is less than every key with that lead, whatever the number.
        place = self.blocks_ahead((low,))
        while place < len(self.blocks):
            for row in self.blocks[place]:
                lead = lead_of(self.word, row)
                if lead > high:
                    return found
                if lead >= low:
                    found.append(row)
            place = place + 1
        return found

    # Halves, so as not to look at all blocks. A block counts where all its rows have lesser keys,
    # and its last row tells that.
    def blocks_ahead(self, key):
        low = 0
        high = len(self.blocks)
        while low < high:
            middle = (low + high) // 2
            if key_of(self.word, self.blocks[middle][-1]) < key:
                low = middle + 1
            else:
                high = middle
        return low

    def rows_ahead(self, block, key):
        ahead = 0
        while ahead < len(block) and key_of(self.word, block[ahead]) < key:
            ahead = ahead + 1
        return ahead

    # Nine rows become four and five, so that either makes five even with a neighbour of one row.
    def split_block(self, place):
        block = self.blocks[place]
        half = len(block) // 2
        self.blocks[place] = block[:half]
        self.blocks.insert(place + 1, block[half:])

    # The block at a place and the next become one where both together have too few rows.
    def join_if_few(self, place):
        if place < 0 or place + 1 >= len(self.blocks):
            return
        joined = self.blocks[place] + self.blocks[place + 1]
        if len(joined) < LEAST_IN_TWO_BLOCKS:
            self.blocks[place] = joined
            self.blocks.pop(place + 1)


def order_with(word, rows):
    order = Order(word)
    for row in rows:
        order.take_in(row)
    return order
