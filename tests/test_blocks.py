"""[4] The blocks of an order, after each row that comes in or goes out."""

import copy
import random
import unittest

from twoorders.order import Order, order_with

import samples
from cases import BlockCase


def sequences(rows):
    """Different ways to go through the same rows."""
    by_rank = samples.in_order("rank", rows)
    half = len(rows) // 2
    yield rows
    yield by_rank
    yield by_rank[::-1]
    yield samples.in_order("text", rows)
    yield by_rank[half:] + by_rank[:half]
    yield by_rank[::2] + by_rank[1::2]
    yield by_rank[:half][::-1] + by_rank[half:]
    yield [by_rank[spot * 89 % len(rows)] for spot in range(len(rows))]
    for seed in range(3):
        shuffled = list(rows)
        random.Random(seed).shuffle(shuffled)
        yield shuffled


class UpAndDown(BlockCase):
    def go_up_and_down(self, word, coming, going):
        order = Order(word)
        self.check_blocks(order.blocks, [])
        there = []
        for row in coming:
            order.take_in(row)
            there = samples.in_order(word, there + [row])
            self.check_blocks(order.blocks, there)
        for row in going:
            order.let_out(row)
            there.remove(row)
            self.check_blocks(order.blocks, there)
        self.assertEqual(order.blocks, [])

    def test_each_way_up_with_each_way_down(self):
        rows = samples.some_rows(2, 60)
        for word in samples.WORDS:
            for coming in sequences(rows):
                for going in sequences(rows):
                    self.go_up_and_down(word, coming, going)

    def test_some_hundred_rows(self):
        rows = samples.some_rows(4, 400)
        ways = list(sequences(rows))
        for word in samples.WORDS:
            for place in range(len(ways)):
                self.go_up_and_down(word, ways[place], ways[place * 3 % len(ways)])

    def test_up_and_down_in_waves(self):
        for word in samples.WORDS:
            for seed in range(6):
                self.go_in_waves(word, seed)

    def go_in_waves(self, word, seed):
        chance = random.Random(seed)
        away = samples.some_rows(seed + 200, 300)
        there = []
        order = Order(word)
        for goal in (40, 3, 150, 0, 9, 1, 300, 100, 120, 8, 10, 0):
            while len(there) != goal:
                grows = chance.random() < (0.8 if len(there) < goal else 0.2)
                if (grows and away) or not there:
                    row = away.pop(chance.randrange(len(away)))
                    order.take_in(row)
                    there = samples.in_order(word, there + [row])
                else:
                    row = there.pop(chance.randrange(len(there)))
                    order.let_out(row)
                    away.append(row)
                self.check_blocks(order.blocks, there)


class AtOnce(BlockCase):
    def test_a_list_of_each_length(self):
        for word in samples.WORDS:
            for many in range(140):
                rows = samples.some_rows(many, many)
                self.check_blocks(order_with(word, rows).blocks, samples.in_order(word, rows))

    def test_changes_behind_a_list(self):
        for word in samples.WORDS:
            rows = samples.some_rows(31, 200)
            order = order_with(word, rows[:130])
            there = list(rows[:130])
            for spot in range(70):
                order.take_in(rows[130 + spot])
                order.let_out(rows[spot])
                there = [row for row in there if row != rows[spot]] + [rows[130 + spot]]
                self.check_blocks(order.blocks, samples.in_order(word, there))


class EveryShape(BlockCase):
    """Every row of block lengths that can come about with a few rows, and each step from there."""

    MOST = 15
    GAP = 10 ** 28

    def after_taking_in(self, order, spot):
        rows = order.rows()
        low = rows[spot - 1][1] if spot > 0 else (rows[0][1] - 2 * self.GAP if rows else 0)
        high = rows[spot][1] if spot < len(rows) else low + 2 * self.GAP
        self.assertGreater(high - low, 1)
        rank = (low + high) // 2
        other = copy.deepcopy(order)
        other.take_in((rank, rank, "t"))
        self.check_blocks(other.blocks, rows[:spot] + [(rank, rank, "t")] + rows[spot:])
        return other

    def after_letting_out(self, order, spot):
        rows = order.rows()
        other = copy.deepcopy(order)
        other.let_out(rows[spot])
        self.check_blocks(other.blocks, rows[:spot] + rows[spot + 1:])
        return other

    def next_orders(self, order):
        many = len(order.rows())
        found = [self.after_letting_out(order, spot) for spot in range(many)]
        if many < self.MOST:
            found.extend([self.after_taking_in(order, spot) for spot in range(many + 1)])
        return found

    def test_every_step_from_every_shape(self):
        seen = {(): True}
        waiting = [Order("rank")]
        while waiting:
            for order in self.next_orders(waiting.pop(0)):
                shape = tuple([len(block) for block in order.blocks])
                if shape not in seen:
                    seen[shape] = True
                    waiting.append(order)
        self.assertGreater(len(seen), 50)


if __name__ == "__main__":
    unittest.main()
