"""[1] What is handed in or given back, and the order itself, have no list in common."""

import unittest

from twoorders.order import Order, order_with

import samples

ENDS = {"rank": (-samples.BIGGEST, samples.BIGGEST), "text": ("", "~" * 100)}


class ListsGivenBack(unittest.TestCase):
    def lists_of(self, order, word):
        return [order.rows(), order.between(ENDS[word][0], ENDS[word][1])]

    def test_they_stay_when_rows_come_in_or_go_out(self):
        for word in samples.WORDS:
            for many in (0, 1, 5, 8, 9, 60):
                rows = samples.some_rows(many, many + 40)
                order = order_with(word, rows[:many])
                given = self.lists_of(order, word)
                expected = samples.in_order(word, rows[:many])
                for row in rows[many:]:
                    order.take_in(row)
                self.assertEqual(given, [expected, expected])
                for row in rows:
                    order.let_out(row)
                self.assertEqual(given, [expected, expected])

    def test_changing_them_changes_no_order(self):
        for word in samples.WORDS:
            for many in (0, 1, 5, 8, 9, 60):
                rows = samples.some_rows(many, many)
                order = order_with(word, rows)
                for given in self.lists_of(order, word):
                    given.append((0, 0, "another"))
                    given.reverse()
                    given.clear()
                expected = samples.in_order(word, rows)
                self.assertEqual(self.lists_of(order, word), [expected, expected])
                self.assertEqual([row for block in order.blocks for row in block], expected)

    def test_each_call_gives_another_list(self):
        for word in samples.WORDS:
            for rows in ([], [(1, 1, "a")], samples.some_rows(1, 30)):
                order = order_with(word, rows)
                given = self.lists_of(order, word) + self.lists_of(order, word)
                given.append(order.between(ENDS[word][1], ENDS[word][0]))
                given.append(order.between(ENDS[word][1], ENDS[word][0]))
                given.extend(order.blocks)
                given.append(order.blocks)
                self.assertEqual(len({id(one) for one in given}), len(given))


class ListsHandedIn(unittest.TestCase):
    def test_the_list_is_not_changed(self):
        for word in samples.WORDS:
            for many in (0, 1, 8, 9, 80):
                rows = samples.some_rows(many, many)
                handed = list(rows)
                order = order_with(word, handed)
                self.assertEqual(handed, rows)
                order.take_in((0, 0, "new"))
                for row in rows:
                    order.let_out(row)
                self.assertEqual(handed, rows)

    def test_the_list_may_be_cleared_later(self):
        for word in samples.WORDS:
            for many in (1, 5, 8, 9, 80):
                rows = samples.some_rows(many, many)
                handed = samples.in_order(word, rows)
                order = order_with(word, handed)
                handed.clear()
                self.assertEqual(order.rows(), samples.in_order(word, rows))
                handed.append((0, 0, "another"))
                self.assertEqual(order.rows(), samples.in_order(word, rows))


class TwoOrders(unittest.TestCase):
    def test_orders_without_rows_have_nothing_in_common(self):
        for word in samples.WORDS:
            for other_word in samples.WORDS:
                one = Order(word)
                other = Order(other_word)
                one.take_in((1, 1, "a"))
                self.assertEqual(other.rows(), [])
                self.assertEqual(other.blocks, [])
                self.assertEqual(Order(word).rows(), [])

    def test_orders_of_one_list_have_nothing_in_common(self):
        rows = samples.some_rows(12, 50)
        for word in samples.WORDS:
            for other_word in samples.WORDS:
                one = order_with(word, rows)
                other = order_with(other_word, rows)
                for row in rows[:25]:
                    one.let_out(row)
                self.assertEqual(other.rows(), samples.in_order(other_word, rows))
                for row in rows[25:]:
                    other.let_out(row)
                self.assertEqual(one.rows(), samples.in_order(word, rows[25:]))

    def test_an_order_of_another_ones_rows(self):
        rows = samples.some_rows(13, 50)
        one = order_with("rank", rows)
        other = order_with("text", one.rows())
        for row in rows:
            one.let_out(row)
        self.assertEqual(other.rows(), samples.in_order("text", rows))


if __name__ == "__main__":
    unittest.main()
