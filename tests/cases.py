"""What several tests check in the same way."""

import unittest

from twoorders.day import answers, both_blocks, both_orders

import samples


class BlockCase(unittest.TestCase):
    def check_blocks(self, blocks, expected):
        """`expected`: all rows that must be there, in the order."""
        self.assertIs(type(blocks), list)
        for block in blocks:
            self.assertIs(type(block), list)
            self.assertGreaterEqual(len(block), 1, blocks)
            self.assertLessEqual(len(block), 8, blocks)
        for left, right in zip(blocks, blocks[1:]):
            self.assertGreaterEqual(len(left) + len(right), 5, blocks)
        self.assertEqual([row for block in blocks for row in block], expected)


class DayCase(BlockCase):
    def check_behind(self, room, deeds, rows):
        """`rows`: all rows that must be there behind the day, in any order."""
        expected = tuple([samples.in_order(word, rows) for word in samples.WORDS])
        orders = both_orders(room, deeds)
        blocks = both_blocks(room, deeds)
        self.assertEqual((type(orders), type(blocks), len(blocks)), (tuple, tuple, 2))
        self.assertEqual(orders, expected)
        for place in range(2):
            self.check_blocks(blocks[place], expected[place])

    def check_last(self, room, deeds, expected):
        """`expected`: the answer to the last deed."""
        self.assertEqual(answers(room, deeds)[-1], expected)

    def check_refused(self, room, deeds, deed, answer):
        """The deed is refused behind the others, and changes nothing, nor what is begun."""
        rows = both_orders(room, deeds)[0]
        told = answers(room, deeds)
        self.assertEqual(answers(room, deeds + [deed]), told + [answer])
        self.check_behind(room, deeds + [deed], rows)
        depth = len([one for one in deeds if one == ("begin",)])
        for end in (("keep",), ("break",)):
            ends = [end] * (depth + 1)
            told = answers(room, deeds + ends)[-depth - 1:]
            self.assertEqual(answers(room, deeds + [deed] + ends)[-depth - 1:], told)
            self.check_behind(room, deeds + [deed] + ends, both_orders(room, deeds + ends)[0])
