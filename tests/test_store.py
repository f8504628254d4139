"""[2], [5], [6], [8] A store by its own methods: each change, each refusal by its class, and what it leaves."""

import unittest

from twoorders.errors import Full, Missing, NotBegun, Taken
from twoorders.store import Store, store_with

import samples
from cases import BlockCase

ROWS = [(5, 2, "e"), (-1, 2, "a"), (0, -7, "")]


class StoreCase(BlockCase):
    def check_rows(self, store, rows):
        """The store has these rows, by number and in both orders, and no others."""
        for row in rows:
            self.assertEqual(store.row_of(row[0]), row)
        self.assertEqual(len(store.by_number), len(rows))
        self.check_blocks(store.by_rank.blocks, samples.in_order("rank", rows))
        self.check_blocks(store.by_text.blocks, samples.in_order("text", rows))

    def check_refused(self, kind, method, *handed):
        """Refused with that very class."""
        with self.assertRaises(kind) as caught:
            method(*handed)
        self.assertIs(type(caught.exception), kind)


class Bringing(StoreCase):
    def test_a_store_without_rows(self):
        for room in (0, 1, 10 ** 40):
            store = Store(room)
            self.check_rows(store, [])
            self.check_refused(Missing, store.row_of, 0)

    def test_rows_are_there_once_brought(self):
        store = Store(3)
        for place, row in enumerate(ROWS):
            self.assertIsNone(store.bring(row))
            self.check_rows(store, ROWS[:place + 1])

    def test_taken_where_the_number_is_there(self):
        store = store_with(9, ROWS)
        for row in ROWS + [(5, 9, "z"), (-1, 2, "b"), (0, 0, "")]:
            self.check_refused(Taken, store.bring, row)
            self.check_rows(store, ROWS)

    def test_full_where_there_is_no_more_room(self):
        store = store_with(3, ROWS)
        for number in (1, 6, -6, samples.BIGGEST):
            self.check_refused(Full, store.bring, (number, 2, "e"))
            self.check_rows(store, ROWS)

    def test_taken_rather_than_full(self):
        store = store_with(3, ROWS)
        self.check_refused(Taken, store.bring, (5, 2, "e"))
        self.check_refused(Taken, store.bring, (0, 1, "other"))
        self.check_rows(store, ROWS)

    def test_no_room_at_all(self):
        store = Store(0)
        self.check_refused(Full, store.bring, (1, 1, "a"))
        self.check_refused(Missing, store.alter, (1, 1, "a"))
        self.check_refused(Missing, store.cut, 1)
        self.check_rows(store, [])

    def test_room_for_each_number_of_rows(self):
        rows = samples.some_rows(3, 30)
        for room in range(30):
            store = store_with(room, rows[:room])
            self.check_refused(Full, store.bring, rows[room])
            self.check_rows(store, rows[:room])

    def test_room_is_there_again_behind_a_cut(self):
        store = store_with(3, ROWS)
        store.cut(5)
        store.bring((5, 1, "again"))
        self.check_rows(store, ROWS[1:] + [(5, 1, "again")])
        self.check_refused(Full, store.bring, (7, 1, "more"))
        store.cut(-1)
        store.bring((7, 1, "more"))
        self.check_rows(store, [ROWS[2], (5, 1, "again"), (7, 1, "more")])


class Altering(StoreCase):
    def test_rank_text_both_or_neither(self):
        for number in (5, -1, 0):
            for rank in (2, -7, 3, -samples.BIGGEST):
                for text in ("e", "a", "", "~" * 100):
                    store = store_with(3, ROWS)
                    self.assertIsNone(store.alter((number, rank, text)))
                    self.check_rows(store, [row for row in ROWS if row[0] != number] + [(number, rank, text)])

    def test_missing_where_no_row_has_the_number(self):
        for room in (3, 4):
            store = store_with(room, ROWS)
            for row in ((1, 2, "e"), (2, -7, ""), (-5, 2, "e")):
                self.check_refused(Missing, store.alter, row)
                self.check_rows(store, ROWS)

    def test_many_rows_one_after_the_other(self):
        rows = samples.some_rows(8, 120)
        store = store_with(120, rows)
        for place in range(120):
            other = rows[place * 7 % 120]
            rows[place] = (rows[place][0], other[1], rows[place - place % 2][2])
            store.alter(rows[place])
            self.check_rows(store, rows)


class Cutting(StoreCase):
    def test_the_row_is_gone(self):
        for place in range(3):
            store = store_with(3, ROWS)
            self.assertIsNone(store.cut(ROWS[place][0]))
            self.check_rows(store, ROWS[:place] + ROWS[place + 1:])
            self.check_refused(Missing, store.row_of, ROWS[place][0])
            self.check_refused(Missing, store.cut, ROWS[place][0])
            self.check_refused(Missing, store.alter, ROWS[place])
            self.check_rows(store, ROWS[:place] + ROWS[place + 1:])

    def test_missing_where_no_row_has_the_number(self):
        store = store_with(3, ROWS)
        for number in (1, 2, -7, -5, samples.BIGGEST):
            self.check_refused(Missing, store.cut, number)
            self.check_refused(Missing, store.row_of, number)
            self.check_rows(store, ROWS)

    def test_all_rows_one_after_the_other(self):
        rows = samples.some_rows(18, 150)
        store = store_with(150, rows)
        for gone in range(150):
            store.cut(rows[gone][0])
            self.check_rows(store, rows[gone + 1:])


class Begun(StoreCase):
    def test_nothing_begun(self):
        for store in (Store(0), store_with(3, ROWS)):
            rows = store.by_rank.rows()
            self.check_refused(NotBegun, store.keep)
            self.check_refused(NotBegun, store.break_off)
            self.check_rows(store, rows)

    def test_nothing_begun_any_more(self):
        for first in ("keep", "break_off"):
            store = store_with(3, ROWS)
            self.assertIsNone(store.begin())
            store.cut(5)
            self.assertIsNone(getattr(store, first)())
            left = ROWS[1:] if first == "keep" else ROWS
            self.check_refused(NotBegun, store.keep)
            self.check_refused(NotBegun, store.break_off)
            self.check_rows(store, left)

    def test_each_change_is_broken_off(self):
        store = store_with(4, ROWS)
        store.begin()
        for change in ((store.bring, (9, 9, "i")), (store.alter, (5, 3, "f")), (store.alter, (5, 2, "e")),
                       (store.cut, -1)):
            store.begin()
            change[0](change[1])
            store.break_off()
            self.check_rows(store, ROWS)
        store.break_off()
        self.check_rows(store, ROWS)

    def test_what_is_kept_is_broken_off_with_what_it_was_begun_in(self):
        store = store_with(4, ROWS)
        store.begin()
        store.begin()
        store.cut(5)
        store.bring((6, 0, "f"))
        store.keep()
        self.check_rows(store, ROWS[1:] + [(6, 0, "f")])
        store.break_off()
        self.check_rows(store, ROWS)

    def test_a_refused_change_in_something_begun(self):
        store = store_with(3, ROWS)
        store.begin()
        store.alter((5, 8, "h"))
        now = ROWS[1:] + [(5, 8, "h")]
        for kind, method, handed in ((Taken, store.bring, (5, 1, "a")), (Full, store.bring, (6, 1, "a")),
                                     (Missing, store.alter, (6, 1, "a")), (Missing, store.cut, 6)):
            self.check_refused(kind, method, handed)
            self.check_rows(store, now)
        store.break_off()
        self.check_rows(store, ROWS)
        self.check_refused(NotBegun, store.break_off)

    def test_room_as_it_was_behind_something_broken_off(self):
        store = store_with(3, ROWS[:2])
        store.begin()
        store.bring(ROWS[2])
        self.check_refused(Full, store.bring, (8, 8, "h"))
        store.break_off()
        store.bring((8, 8, "h"))
        self.check_refused(Full, store.bring, ROWS[2])
        self.check_rows(store, ROWS[:2] + [(8, 8, "h")])

    def test_no_steps_back_are_gathered_where_nothing_is_begun(self):
        store = store_with(3, ROWS)
        store.begin()
        store.alter((5, 8, "h"))
        store.keep()
        store.cut(5)
        self.assertEqual(store.steps, [])

    def test_some_thousand_within_one_another(self):
        store = Store(5000)
        for number in range(5000):
            store.begin()
            store.bring((number, -number, "t"))
        for number in range(2500):
            store.keep()
        for number in range(2499, -1, -1):
            store.break_off()
            self.assertEqual(len(store.by_number), number)
        self.check_rows(store, [])


class StoreWith(StoreCase):
    def test_rows_and_room(self):
        for many in (0, 1, 8, 9, 140):
            rows = samples.some_rows(many, many)
            store = store_with(many, rows)
            self.assertIs(type(store), Store)
            self.check_rows(store, rows)
            self.check_refused(Full, store.bring, (10 ** 33, 0, ""))
            self.check_refused(NotBegun, store.keep)
            self.check_refused(NotBegun, store.break_off)

    def test_refuses_as_bring_does(self):
        self.check_refused(Taken, store_with, 5, ROWS + [(0, 1, "b")])
        self.check_refused(Taken, store_with, 3, ROWS + [(0, 1, "b")])
        self.check_refused(Taken, store_with, 1, [(5, 1, "a"), (5, 1, "a"), (6, 1, "a")])
        self.check_refused(Full, store_with, 1, [(5, 1, "a"), (6, 1, "a"), (5, 1, "a")])
        self.check_refused(Full, store_with, 2, ROWS)
        self.check_refused(Full, store_with, 0, ROWS[:1])
        self.check_rows(store_with(0, []), [])

    def test_stores_have_nothing_in_common(self):
        one = store_with(4, ROWS)
        other = store_with(4, ROWS)
        one.begin()
        one.cut(5)
        self.check_rows(other, ROWS)
        self.check_refused(NotBegun, other.break_off)
        other.bring((9, 9, "i"))
        one.break_off()
        self.check_rows(one, ROWS)
        self.check_rows(other, ROWS + [(9, 9, "i")])
        self.check_rows(Store(4), [])

    def test_big_numbers_and_long_texts(self):
        top = samples.BIGGEST
        rows = [(top, top, "~" * 100), (-top, -top, " " * 100), (top - 1, 1 - top, ""),
                (10 ** 40, -10 ** 40, "a" * 150)]
        store = store_with(4, rows)
        self.check_rows(store, rows)
        for row in rows:
            store.alter((row[0], -row[1], row[2][1:] + "~"))
        self.check_rows(store, [(row[0], -row[1], row[2][1:] + "~") for row in rows])


if __name__ == "__main__":
    unittest.main()
