"""[3], [8], [9] What an order tells: all rows, the spot of a row, the rows between two."""

import unittest

from twoorders.order import Order, order_with

import samples


class RowsInOrder(unittest.TestCase):
    def test_an_order_without_rows(self):
        for word in samples.WORDS:
            for order in (Order(word), order_with(word, [])):
                self.assertEqual(order.rows(), [])
                self.assertEqual(order.blocks, [])
                self.assertEqual(order.ahead_of((1, 2, "a")), 0)

    def test_by_rank_the_least_first(self):
        rows = [(1, 5, "a"), (2, -5, "b"), (3, 0, "c"), (4, -40, "d"), (5, 10, "e")]
        self.assertEqual([row[1] for row in order_with("rank", rows).rows()], [-40, -5, 0, 5, 10])

    def test_by_text_the_least_first(self):
        rows = [(1, 1, "b"), (2, 2, ""), (3, 3, "~"), (4, 4, "B"), (5, 5, "a"), (6, 6, " "), (7, 7, "9"), (8, 8, "10")]
        texts = [row[2] for row in order_with("text", rows).rows()]
        self.assertEqual(texts, ["", " ", "10", "9", "B", "a", "b", "~"])

    def test_rows_of_one_rank_by_number_not_by_text(self):
        rows = [(10, 3, "a"), (9, 3, "z"), (-1, 3, "m"), (-10, 3, "b")]
        self.assertEqual([row[0] for row in order_with("rank", rows).rows()], [-10, -1, 9, 10])

    def test_rows_of_one_text_by_number_not_by_rank(self):
        rows = [(10, 1, "x"), (9, 9, "x"), (-1, 5, "x"), (-10, 2, "x")]
        self.assertEqual([row[0] for row in order_with("text", rows).rows()], [-10, -1, 9, 10])

    def test_many_rows_of_one_rank_and_text(self):
        rows = [(number * 37 % 101, 7, "t") for number in range(101)]
        for word in samples.WORDS:
            self.assertEqual(order_with(word, rows).rows(), [(number, 7, "t") for number in range(101)])

    def test_ranks_and_numbers_of_thirty_two_figures(self):
        top = samples.BIGGEST
        rows = [(1, top, "a"), (2, -top, "a"), (3, top - 1, "a"), (4, 1 - top, "a"), (5, 0, "a"), (6, 10 ** 31, "a")]
        self.assertEqual([row[0] for row in order_with("rank", rows).rows()], [2, 4, 5, 6, 3, 1])
        rows = [(top, 1, "a"), (-top, 1, "a"), (top - 1, 1, "a"), (1 - top, 1, "a"), (0, 1, "a")]
        for word in samples.WORDS:
            self.assertEqual([row[0] for row in order_with(word, rows).rows()], [-top, 1 - top, 0, top - 1, top])

    def test_numbers_and_texts_somewhat_beyond_the_bounds(self):
        rows = [(10 ** 40, -(10 ** 40), "a" * 150), (-(10 ** 40), 10 ** 40, "a" * 151)]
        self.assertEqual(order_with("rank", rows).rows(), rows)
        self.assertEqual(order_with("text", rows).rows(), rows)

    def test_many_rows_one_by_one_and_all_at_once(self):
        for word in samples.WORDS:
            for seed in range(20):
                rows = samples.some_rows(seed, 3 + 11 * seed)
                order = Order(word)
                for row in rows:
                    self.assertIsNone(order.take_in(row))
                self.assertEqual(order.rows(), samples.in_order(word, rows))
                self.assertEqual(order_with(word, rows).rows(), samples.in_order(word, rows))

    def test_rows_let_out_are_gone_and_the_rest_stays(self):
        for word in samples.WORDS:
            rows = samples.some_rows(77, 120)
            order = order_with(word, rows)
            for gone in range(1, 121):
                self.assertIsNone(order.let_out(rows[gone - 1]))
                self.assertEqual(order.rows(), samples.in_order(word, rows[gone:]))

    def test_a_row_let_out_can_come_in_again(self):
        for word in samples.WORDS:
            order = order_with(word, [(1, 2, "a"), (2, 2, "a")])
            order.let_out((1, 2, "a"))
            order.take_in((1, 3, "b"))
            self.assertEqual(order.rows(), [(2, 2, "a"), (1, 3, "b")])

    def test_rows_are_the_tuples_that_came_in(self):
        for word in samples.WORDS:
            for row in order_with(word, samples.some_rows(5, 40)).rows():
                self.assertIs(type(row), tuple)


class Spots(unittest.TestCase):
    def test_a_row_that_is_there(self):
        rows = [(1, 30, "a"), (2, 20, "c"), (3, 10, "b")]
        self.assertEqual([order_with("rank", rows).ahead_of(row) for row in rows], [2, 1, 0])
        self.assertEqual([order_with("text", rows).ahead_of(row) for row in rows], [0, 2, 1])

    def test_a_row_that_is_not_there(self):
        rows = [(1, 10, "b"), (5, 20, "d"), (9, 20, "d")]
        by_rank = order_with("rank", rows)
        asked = [(2, 9, ""), (0, 10, ""), (2, 10, ""), (4, 20, ""), (6, 20, ""), (10, 20, ""), (0, 21, "")]
        self.assertEqual([by_rank.ahead_of(row) for row in asked], [0, 0, 1, 1, 2, 3, 3])
        by_text = order_with("text", rows)
        asked = [(2, 0, ""), (0, 0, "b"), (2, 0, "b"), (4, 0, "d"), (6, 0, "d"), (10, 0, "d"), (0, 0, "d ")]
        self.assertEqual([by_text.ahead_of(row) for row in asked], [0, 0, 1, 1, 2, 3, 3])

    def test_a_row_whose_number_another_has(self):
        rows = [(1, 10, "b"), (2, 20, "d"), (3, 30, "f")]
        self.assertEqual(order_with("rank", rows).ahead_of((1, 25, "b")), 2)
        self.assertEqual(order_with("text", rows).ahead_of((3, 30, "a")), 0)

    def test_asking_brings_nothing_in(self):
        for word in samples.WORDS:
            rows = samples.some_rows(3, 30)
            order = order_with(word, rows[:15])
            for row in rows:
                order.ahead_of(row)
            self.assertEqual(order.rows(), samples.in_order(word, rows[:15]))

    def test_many_rows_there_and_not_there(self):
        for word in samples.WORDS:
            for seed in range(12):
                rows = samples.some_rows(seed + 100, 10 + 20 * seed)
                there = rows[:len(rows) // 2]
                order = order_with(word, there)
                for row in rows:
                    self.assertEqual(order.ahead_of(row), samples.ahead(word, there, row))

    def test_spots_count_up_along_the_rows(self):
        for word in samples.WORDS:
            order = order_with(word, samples.some_rows(9, 200))
            self.assertEqual([order.ahead_of(row) for row in order.rows()], list(range(200)))

    def test_spots_behind_rows_let_out(self):
        for word in samples.WORDS:
            rows = samples.some_rows(19, 90)
            order = order_with(word, rows)
            for gone in range(90):
                order.let_out(rows[gone])
                self.assertEqual(order.ahead_of(rows[gone]), samples.ahead(word, rows[gone + 1:], rows[gone]))


class Between(unittest.TestCase):
    def test_both_ends_count(self):
        rows = [(number, number * 10, "t") for number in range(-30, 31)]
        order = order_with("rank", rows)
        self.assertEqual(order.between(-20, 10), [(-2, -20, "t"), (-1, -10, "t"), (0, 0, "t"), (1, 10, "t")])
        self.assertEqual(order.between(-19, 9), [(-1, -10, "t"), (0, 0, "t")])
        self.assertEqual(order.between(10, 10), [(1, 10, "t")])
        self.assertEqual(order.between(11, 19), [])

    def test_both_ends_count_between_texts(self):
        rows = [(5, 1, "b"), (4, 2, "b"), (3, 3, ""), (2, 4, "B"), (1, 5, "bb"), (0, 6, "~")]
        order = order_with("text", rows)
        self.assertEqual(order.between("", ""), [(3, 3, "")])
        self.assertEqual(order.between("b", "b"), [(4, 2, "b"), (5, 1, "b")])
        self.assertEqual(order.between("b", "bb"), [(4, 2, "b"), (5, 1, "b"), (1, 5, "bb")])
        self.assertEqual(order.between("", "b"), [(3, 3, ""), (2, 4, "B"), (4, 2, "b"), (5, 1, "b")])
        self.assertEqual(order.between("bbb", "~"), [(0, 6, "~")])
        self.assertEqual(order.between("c", "z"), [])

    def test_none_where_the_first_is_greater(self):
        rows = [(number, number, "abcdefghij"[number % 10]) for number in range(50)]
        self.assertEqual(order_with("rank", rows).between(31, 30), [])
        self.assertEqual(order_with("rank", rows).between(1000, -1000), [])
        self.assertEqual(order_with("text", rows).between("d", "c"), [])
        self.assertEqual(order_with("text", rows).between("~", ""), [])

    def test_ends_outside_all_rows(self):
        rows = samples.some_rows(8, 60)
        beyond = samples.BIGGEST + 1
        by_rank = order_with("rank", rows)
        self.assertEqual(by_rank.between(-beyond, beyond), by_rank.rows())
        self.assertEqual(by_rank.between(beyond, beyond), [])
        self.assertEqual(by_rank.between(-beyond, -beyond), [])
        by_text = order_with("text", rows)
        self.assertEqual(by_text.between("", "~" * 101), by_text.rows())
        self.assertEqual(by_text.between("~" * 101, "~" * 102), [])

    def test_an_order_without_rows(self):
        self.assertEqual(Order("rank").between(-5, 5), [])
        self.assertEqual(Order("text").between("", "~"), [])

    def test_one_lead_over_several_blocks(self):
        rows = [(number, number // 30, "pqrs"[number // 30]) for number in range(120)]
        self.assertEqual(order_with("rank", rows).between(1, 2), rows[30:90])
        self.assertEqual(order_with("text", rows).between("q", "q"), rows[30:60])

    def check_every_two(self, word, order, rows):
        ends = samples.RANKS if word == "rank" else samples.TEXTS
        for low in ends:
            for high in ends:
                self.assertEqual(order.between(low, high), samples.within(word, rows, low, high))

    def test_every_two_ranks_or_texts(self):
        for word in samples.WORDS:
            for seed in range(4):
                rows = samples.some_rows(seed + 40, 25 * seed)
                self.check_every_two(word, order_with(word, rows), rows)

    def test_behind_rows_let_out(self):
        for word in samples.WORDS:
            rows = samples.some_rows(61, 100)
            order = order_with(word, rows)
            for row in rows[:70]:
                order.let_out(row)
            self.check_every_two(word, order, rows[70:])


if __name__ == "__main__":
    unittest.main()
