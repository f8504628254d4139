"""[4], [5], [10], [11] Whole days: each deed's answer, and both orders and blocks behind them."""

import unittest

from twoorders.day import answers, both_blocks, both_orders

import plain
import samples
from cases import DayCase


class Answers(DayCase):
    def test_a_day_without_deeds(self):
        for room in (0, 1, 50):
            self.assertEqual(answers(room, []), [])
            self.assertEqual(both_orders(room, []), ([], []))
            self.assertEqual(both_blocks(room, []), ([], []))

    def test_each_deed(self):
        day = [(("bring", (1, 20, "b")), "done"), (("bring", (2, 10, "b")), "done"), (("alter", (2, 30, "a")), "done"),
               (("begin",), "done"), (("cut", 1), "done"), (("break",), "done"), (("begin",), "done"),
               (("bring", (3, 20, "")), "done"), (("keep",), "done"), (("all", [("alter", (3, 20, "b"))]), "done"),
               (("all", [("cut", 3), ("cut", 3)]), (1, "missing")), (("row", 3), (3, 20, "b")),
               (("within", "rank", 20, 29), [(1, 20, "b"), (3, 20, "b")]),
               (("within", "text", "", "a"), [(2, 30, "a")]), (("both", 0, 25, "b"), [(1, 20, "b"), (3, 20, "b")]),
               (("from", "text", 0, 2), [(2, 30, "a"), (1, 20, "b")]), (("spot", "rank", 2), 2),
               (("spot", "text", 2), 0)]
        self.assertEqual(answers(3, [deed for deed, answer in day]), [answer for deed, answer in day])
        self.check_behind(3, [deed for deed, answer in day], [(1, 20, "b"), (2, 30, "a"), (3, 20, "b")])

    def test_each_refusal(self):
        rows = [("bring", (1, 2, "a")), ("bring", (2, 2, "a"))]
        for deed, answer in ((("bring", (1, 9, "z")), "taken"), (("bring", (1, 2, "a")), "taken"),
                             (("bring", (3, 2, "a")), "full"), (("alter", (3, 2, "a")), "missing"),
                             (("cut", 3), "missing"), (("keep",), "not begun"), (("break",), "not begun"),
                             (("row", 3), "missing"), (("spot", "rank", 3), "missing"),
                             (("spot", "text", 0), "missing"), (("spot", "size", 3), "no order"),
                             (("within", "", 1, 2), "no order"),
                             (("from", "Rank", 1, 2), "no order"), (("all", [("cut", 1), ("cut", 3)]), (1, "missing"))):
            self.check_refused(2, rows, deed, answer)
            if answer != "not begun":
                self.check_refused(2, rows[:1] + [("begin",), rows[1], ("begin",)], deed, answer)

    def test_a_refused_deed_does_not_end_the_day(self):
        self.assertEqual(answers(1, [("cut", 1), ("bring", (1, 1, "a")), ("bring", (1, 1, "a")), ("bring", (2, 1, "a")),
                                     ("keep",), ("spot", "x", 1), ("row", 1)]),
                         ["missing", "done", "taken", "full", "not begun", "no order", (1, 1, "a")])

    def test_no_room(self):
        deeds = [("bring", (1, 1, "a")), ("alter", (1, 1, "a")), ("cut", 1), ("row", 1), ("within", "rank", -5, 5),
                 ("both", -5, 5, "a"), ("from", "text", 0, 5), ("spot", "rank", 1), ("begin",), ("keep",)]
        self.assertEqual(answers(0, deeds),
                         ["full", "missing", "missing", "missing", [], [], [], "missing", "done", "done"])
        self.check_behind(0, deeds, [])

    def test_days_have_nothing_in_common(self):
        deeds = [("begin",), ("bring", (1, 1, "a"))]
        self.assertEqual(answers(1, deeds), ["done", "done"])
        self.assertEqual(answers(1, deeds), ["done", "done"])
        self.assertEqual(answers(1, [("keep",), ("row", 1)]), ["not begun", "missing"])

    def test_kinds(self):
        deeds = [("bring", (1, 1, "a")), ("row", 1), ("within", "rank", 1, 1), ("both", 1, 1, "a"),
                 ("from", "rank", 0, 1), ("spot", "rank", 1)]
        kinds = [type(answer) for answer in answers(1, deeds)]
        self.assertEqual(kinds, [str, tuple, list, list, list, int])
        self.assertIs(type(answers(1, deeds)), list)
        for pair in (both_orders(1, deeds), both_blocks(1, deeds)):
            self.assertEqual((type(pair), [type(one) for one in pair]), (tuple, [list, list]))


class LongDays(DayCase):
    def test_answers_and_rows_behind_days_by_chance(self):
        for seed in range(40):
            room = (1000, 0, 300, 1, 150, 9, 1000, 20)[seed % 8]
            deeds, told, store = plain.SomeDeeds(seed, 300).day(room, 700)
            self.assertEqual(answers(room, deeds), told)
            self.check_behind(room, deeds, list(store.rows.values()))

    def test_behind_every_deed_of_a_day(self):
        for seed in (101, 102, 103):
            deeds = plain.SomeDeeds(seed, 200).day(400, 260)[0]
            store = plain.PlainStore(400)
            for place, deed in enumerate(deeds):
                store.answer(deed)
                self.check_behind(400, deeds[:place + 1], list(store.rows.values()))

    def test_rows_brought_altered_and_cut(self):
        """Each row gets another rank, another text, both or neither; then every third goes."""
        rows = samples.some_rows(50, 330)
        deeds = [("bring", row) for row in rows]
        self.check_behind(330, deeds, rows)
        for place, row in enumerate(rows):
            rank = rows[place - 1][1] if place % 2 else row[1]
            text = rows[place - 1][2] if place % 4 > 1 else row[2]
            rows[place] = (row[0], rank, text)
            deeds.append(("alter", rows[place]))
        self.check_behind(330, deeds, rows)
        deeds.extend([("cut", row[0]) for row in rows[::3]])
        self.assertEqual(answers(330, deeds), ["done"] * len(deeds))
        self.check_behind(330, deeds, [row for place, row in enumerate(rows) if place % 3])

    def test_rows_in_rising_and_falling_order(self):
        for step in (1, -1):
            rows = [(number * step, number * step, "abc"[number % 3]) for number in range(300)]
            deeds = [("bring", row) for row in rows]
            self.check_behind(300, deeds, rows)
            for many in (100, 200, 299, 300):
                self.check_behind(300, deeds + [("cut", row[0]) for row in rows[:many]], rows[many:])

    def test_rows_of_one_rank_and_one_text(self):
        rows = [(number * 71 % 211 - 100, 0, "") for number in range(211)]
        deeds = [("bring", row) for row in rows]
        self.check_behind(211, deeds, rows)
        self.check_behind(211, deeds + [("cut", row[0]) for row in rows[50:150]], rows[:50] + rows[150:])

    def test_big_numbers_and_long_texts(self):
        top = samples.BIGGEST
        rows = [(top - number, number - top, "~" * (99 - number) + " " * number) for number in range(60)]
        rows.extend([(number - top, top - number, " " * (99 - number) + "~" * (number + 1)) for number in range(60)])
        deeds = [("bring", row) for row in rows]
        self.check_behind(120, deeds, rows)
        others = [(row[0], -row[1], row[2][::-1]) for row in rows]
        self.check_behind(120, deeds + [("alter", row) for row in others], others)
        self.assertEqual(answers(120, deeds + [("row", row[0]) for row in rows])[120:], rows)
        self.assertEqual(answers(120, deeds + [("within", "rank", top - 2, top)])[-1],
                         samples.within("rank", rows, top - 2, top))

    def test_somewhat_beyond_the_bounds(self):
        rows = [(10 ** 40 + number, -10 ** 50 - number, "b" * (150 + number)) for number in range(30)]
        deeds = [("bring", row) for row in rows]
        self.check_behind(10 ** 40, deeds, rows)
        self.check_last(30, deeds + [("spot", "rank", rows[29][0])], 0)
        self.check_last(30, deeds + [("row", 10 ** 45)], "missing")


if __name__ == "__main__":
    unittest.main()
