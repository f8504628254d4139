"""[3] The words of the two orders."""

import unittest

from twoorders.errors import NoOrder
from twoorders.order import Order, order_with
from twoorders.rows import check_word

WRONG_WORDS = ("", " ", "number", "Rank", "RANK", "ran", "ranks", " rank", "rank ", "texts", "Text",
               "ranktext", "rank text", "rank,text", "~", "{word}", "'", "a" * 100)


class Words(unittest.TestCase):
    def test_both_words_are_taken_and_nothing_is_given_back(self):
        self.assertIsNone(check_word("rank"))
        self.assertIsNone(check_word("text"))

    def test_a_word_put_together_at_run_time_is_taken(self):
        for word in ("rank", "text"):
            self.assertIsNone(check_word("".join(list(word))))

    def test_check_word_refuses_any_other(self):
        for word in WRONG_WORDS:
            with self.assertRaises(NoOrder, msg=word):
                check_word(word)

    def test_order_refuses_any_other(self):
        for word in WRONG_WORDS:
            with self.assertRaises(NoOrder, msg=word):
                Order(word)

    def test_order_with_refuses_any_other_ahead_of_all_else(self):
        for word in WRONG_WORDS:
            for rows in ([], [(1, 2, "a")], [(n, n, "b") for n in range(20)]):
                kept = list(rows)
                with self.assertRaises(NoOrder, msg=word):
                    order_with(word, rows)
                self.assertEqual(rows, kept)


if __name__ == "__main__":
    unittest.main()
