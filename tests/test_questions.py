"""[3], [8], [9] Each question, held against a walk over all rows."""

import unittest

from twoorders.day import answers
from twoorders.errors import Missing, NoOrder
from twoorders.questions import rows_from, rows_within, spot_of
from twoorders.store import store_with

import plain
import samples
from cases import DayCase

WRONG_WORDS = ("", " ", "number", "Rank", "ranks", "rank ", "texts", "TEXT", "done", "~")
BIG = samples.BIGGEST


def brought(rows):
    return [("bring", row) for row in rows]


def asked(rows, questions):
    """The answers of the questions alone, behind a day that brings the rows."""
    return answers(len(rows), brought(rows) + list(questions))[len(rows):]


class QuestionCase(DayCase):
    def check_walked(self, rows, questions):
        store = plain.PlainStore(len(rows))
        store.rows = {row[0]: row for row in rows}
        told = asked(rows, questions)
        for place, question in enumerate(questions):
            self.assertEqual(told[place], store.answer(question), question)

    def several_stores(self):
        yield []
        yield [(4, 0, "")]
        yield samples.some_rows(1, 130)
        yield [(number * 31 % 101, 3, samples.TEXTS[number % 9]) for number in range(101)]
        yield [(number * 31 % 101, number * 17 % 11, "t") for number in range(101)]
        yield [(number * 31 % 101, 3, "") for number in range(101)]


class RowByNumber(QuestionCase):
    def test_the_row(self):
        rows = samples.some_rows(2, 120)
        self.assertEqual(asked(rows, [("row", row[0]) for row in rows]), rows)

    def test_missing(self):
        for rows in self.several_stores():
            numbers = [row[0] for row in rows]
            for number in (0, 1, -1, 3, BIG, -BIG, 10 ** 40):
                if number not in numbers:
                    self.check_refused(len(rows), brought(rows), ("row", number), "missing")

    def test_the_row_as_it_is_now(self):
        deeds = [("bring", (1, 2, "a")), ("alter", (1, 3, "b")), ("row", 1), ("begin",), ("cut", 1), ("row", 1),
                 ("bring", (1, 4, "c")), ("row", 1), ("break",), ("row", 1)]
        self.assertEqual([answers(1, deeds)[place] for place in (2, 5, 7, 9)],
                         [(1, 3, "b"), "missing", (1, 4, "c"), (1, 3, "b")])


class Within(QuestionCase):
    def test_both_ends_count(self):
        rows = [(number, number * 10, "abcdefgh"[number % 8]) for number in range(40)]
        self.assertEqual(asked(rows, [("within", "rank", 20, 40)]), [[rows[2], rows[3], rows[4]]])
        self.assertEqual(asked(rows, [("within", "rank", 21, 39)]), [[rows[3]]])
        self.assertEqual(asked(rows, [("within", "text", "b", "b")]), [rows[1::8]])
        self.assertEqual(asked(rows, [("within", "text", "a ", "bz")]), [rows[1::8]])
        self.assertEqual(asked(rows, [("within", "text", "", "a")]), [rows[0::8]])

    def test_every_two_ranks_and_every_two_texts(self):
        questions = [("within", "rank", low, high) for low in samples.RANKS for high in samples.RANKS]
        questions.extend([("within", "text", low, high) for low in samples.TEXTS for high in samples.TEXTS])
        for rows in self.several_stores():
            self.check_walked(rows, questions)

    def test_none_where_the_first_is_greater(self):
        for rows in self.several_stores():
            questions = [("within", "rank", 1, 0), ("within", "rank", 4, 3), ("within", "rank", BIG, -BIG),
                         ("within", "text", "a", ""), ("within", "text", "tt", "t"), ("within", "text", "~", " ")]
            self.assertEqual(asked(rows, questions), [[]] * 6)


class OfATextBetweenRanks(QuestionCase):
    def test_told_by_rank_and_rows_of_one_rank_by_number(self):
        rows = [(1, 9, "a"), (2, 5, "a"), (3, 5, "b"), (4, 7, "a"), (-5, 5, "a"), (6, 1, "a"), (7, 7, ""), (8, 6, "aa")]
        self.assertEqual(asked(rows, [("both", 5, 9, "a")]), [[(-5, 5, "a"), (2, 5, "a"), (4, 7, "a"), (1, 9, "a")]])
        self.assertEqual(asked(rows, [("both", 5, 5, "a")]), [[(-5, 5, "a"), (2, 5, "a")]])
        self.assertEqual(asked(rows, [("both", 6, 8, "a")]), [[(4, 7, "a")]])
        self.assertEqual(asked(rows, [("both", -BIG, BIG, "")]), [[(7, 7, "")]])
        self.assertEqual(asked(rows, [("both", -BIG, BIG, "A")]), [[]])

    def test_every_two_ranks_with_every_text(self):
        questions = [("both", low, high, text) for low in samples.RANKS for high in samples.RANKS
                     for text in samples.TEXTS + ("t", "none")]
        for rows in self.several_stores():
            self.check_walked(rows, questions)

    def test_none_where_the_first_is_greater(self):
        for rows in self.several_stores():
            for text in ("", "a", "t"):
                self.assertEqual(asked(rows, [("both", 4, 3, text), ("both", 1, 0, text), ("both", BIG, -BIG, text)]),
                                 [[], [], []])


class FromASpotOn(QuestionCase):
    def test_spots_without_a_row_are_passed_by_but_count(self):
        rows = [(1, 10, "c"), (2, 20, "b"), (3, 30, "a")]
        for spot, many, expected in ((0, 3, rows), (0, 2, rows[:2]), (1, 1, rows[1:2]), (1, 9, rows[1:]),
                                     (-1, 1, []), (-1, 2, rows[:1]), (-2, 4, rows[:2]), (-2, 2, []), (-2, 9, rows),
                                     (2, 5, rows[2:]), (3, 5, []), (9, 9, []), (1, 0, []), (-1, 0, [])):
            self.assertEqual(asked(rows, [("from", "rank", spot, many)]), [expected], (spot, many))
        self.assertEqual(asked(rows, [("from", "text", 1, 2)]), [[rows[1], rows[0]]])

    def test_every_spot_and_every_many(self):
        for rows in self.several_stores():
            most = len(rows)
            spots = list(range(-12, 30)) + list(range(most - 12, most + 4))
            questions = [("from", word, spot, many) for word in samples.WORDS for spot in spots
                         for many in (0, 1, 2, 3, 7, 8, 9, 12, 13, 14, 40, most, most + 12)]
            self.check_walked(rows, questions)

    def test_far_away_spots_and_very_many(self):
        rows = samples.some_rows(7, 100)
        for word in samples.WORDS:
            whole = samples.in_order(word, rows)
            questions = [("from", word, 0, BIG), ("from", word, -BIG, BIG), ("from", word, -BIG, BIG + 1),
                         ("from", word, -BIG, BIG + 40), ("from", word, -BIG, 2 * BIG), ("from", word, BIG, BIG),
                         ("from", word, 99, BIG), ("from", word, 100, BIG), ("from", word, -BIG, 0)]
            self.assertEqual(asked(rows, questions),
                             [whole, [], whole[:1], whole[:40], whole, [], whole[99:], [], []])


class SpotByNumber(QuestionCase):
    def test_every_row(self):
        for rows in self.several_stores():
            self.check_walked(rows, [("spot", word, row[0]) for word in samples.WORDS for row in rows])

    def test_missing(self):
        for rows in self.several_stores():
            numbers = [row[0] for row in rows]
            for number in (1000, -1000, BIG - 10 ** 9, 10 ** 40):
                self.assertNotIn(number, numbers)
                for word in samples.WORDS:
                    self.check_refused(len(rows), brought(rows), ("spot", word, number), "missing")

    def test_from_that_spot_on_the_row_is_found(self):
        rows = samples.some_rows(17, 140)
        for word in samples.WORDS:
            spots = asked(rows, [("spot", word, row[0]) for row in rows])
            self.assertEqual(sorted(spots), list(range(140)))
            self.assertEqual(asked(rows, [("from", word, spot, 1) for spot in spots]), [[row] for row in rows])


class WrongWords(QuestionCase):
    def test_no_order_ahead_of_all_else(self):
        for rows in ([], [(1, 2, "a")], samples.some_rows(27, 40)):
            for word in WRONG_WORDS:
                for question in (("within", word, 0, 5), ("within", word, 5, 0), ("within", word, "a", "b"),
                                 ("from", word, 0, 5), ("from", word, -5, 0), ("from", word, BIG, 1),
                                 ("spot", word, 1), ("spot", word, 10 ** 40)):
                    self.check_refused(len(rows), brought(rows), question, "no order")


class RefusalsByClass(QuestionCase):
    def check_class(self, kind, rows, function, *handed):
        store = store_with(len(rows), rows)
        store.begin()
        with self.assertRaises(kind) as caught:
            function(store, *handed)
        self.assertIs(type(caught.exception), kind)
        for word, order in (("rank", store.by_rank), ("text", store.by_text)):
            self.check_blocks(order.blocks, samples.in_order(word, rows))
        self.assertEqual((len(store.by_number), len(store.marks), store.steps), (len(rows), 1, []))

    def test_no_order(self):
        for rows in self.several_stores():
            for word in WRONG_WORDS:
                self.check_class(NoOrder, rows, rows_within, word, 0, 5)
                self.check_class(NoOrder, rows, rows_within, word, "b", "a")
                self.check_class(NoOrder, rows, rows_from, word, 0, 5)
                self.check_class(NoOrder, rows, rows_from, word, -5, 0)
                self.check_class(NoOrder, rows, spot_of, word, 4)
                self.check_class(NoOrder, rows, spot_of, word, 10 ** 40)

    def test_missing(self):
        for rows in self.several_stores():
            for word in samples.WORDS:
                self.check_class(Missing, rows, spot_of, word, 10 ** 40)


class BehindChanges(QuestionCase):
    def test_questions_change_nothing(self):
        rows = samples.some_rows(37, 100)
        some = plain.SomeDeeds(1, 50)
        store = plain.PlainStore(100)
        questions = [some.question(store) for place in range(300)]
        self.check_behind(100, brought(rows) + questions, rows)

    def test_every_question_between_changes_and_things_broken_off(self):
        for seed in range(12):
            some = plain.SomeDeeds(seed, 250)
            deeds, told, store = some.day(200, 500)
            for place in range(300):
                deeds.append(some.question(store))
                told.append(store.answer(deeds[-1]))
            self.assertEqual(answers(200, deeds), told)


if __name__ == "__main__":
    unittest.main()
