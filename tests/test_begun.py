"""[6] Things begun within things begun, kept and broken off in every order."""

import itertools
import unittest

from twoorders.day import answers

import plain
import samples
from cases import DayCase

BEGIN = ("begin",)
KEEP = ("keep",)
BREAK = ("break",)
ENDS = (KEEP, BREAK)


class BegunCase(DayCase):
    def check_day(self, room, deeds):
        """The answers and the rows behind the day are those of the plain store."""
        store = plain.PlainStore(room)
        self.assertEqual(answers(room, deeds), [store.answer(deed) for deed in deeds], deeds)
        self.check_behind(room, deeds, list(store.rows.values()))


class FewDeeds(BegunCase):
    def test_every_day_of_a_few_deeds(self):
        choice = (BEGIN, KEEP, BREAK, ("bring", (1, 5, "b")), ("alter", (1, 7, "a")), ("cut", 1))
        for deeds in itertools.product(choice, repeat=5):
            self.check_day(2, [("bring", (2, 6, "b"))] + list(deeds))

    def test_every_order_of_begins_and_ends(self):
        for marks in itertools.product((BEGIN, KEEP, BREAK), repeat=7):
            deeds = []
            for place, mark in enumerate(marks):
                deeds.extend([mark, ("bring", (place, 9 - place % 3, "t")), ("alter", (place // 2, place, "s"))])
            self.check_day(7, deeds)

    def test_nothing_begun(self):
        for room in (0, 2):
            self.check_refused(room, [], KEEP, "not begun")
            self.check_refused(room, [], BREAK, "not begun")
        for end in ENDS:
            self.check_refused(2, [BEGIN, ("bring", (1, 1, "a")), end], KEEP, "not begun")
            self.check_refused(2, [BEGIN, ("bring", (1, 1, "a")), end], BREAK, "not begun")

    def test_what_is_still_begun_at_the_end_of_the_day_stands(self):
        self.check_behind(2, [BEGIN, ("bring", (1, 1, "a")), BEGIN, ("bring", (2, 1, "a"))], [(1, 1, "a"), (2, 1, "a")])

    def test_a_number_cut_and_brought_again(self):
        deeds = [("bring", (1, 1, "a")), BEGIN, ("cut", 1), ("bring", (1, 2, "b")), ("cut", 1), ("bring", (1, 3, "c"))]
        self.check_behind(1, deeds, [(1, 3, "c")])
        self.check_behind(1, deeds + [BREAK], [(1, 1, "a")])
        self.check_behind(1, deeds + [KEEP], [(1, 3, "c")])


class ManyRows(BegunCase):
    def changes(self, seed, store, many):
        """Changes that the plain store takes, done there too."""
        some = plain.SomeDeeds(seed, 400)
        found = []
        while len(found) < many:
            change = some.growing(store)
            if store.answer(change) == "done":
                found.append(change)
        return found

    def test_five_within_one_another_kept_and_broken_off_in_every_order(self):
        store = plain.PlainStore(1000)
        deeds = self.changes(1, store, 160)
        states = []
        for depth in range(5):
            states.append(list(store.rows.values()))
            deeds.append(BEGIN)
            deeds.extend(self.changes(depth + 2, store, 60))
        last = list(store.rows.values())
        self.assertGreater(len(states[0]), 100)
        for ends in itertools.product(ENDS, repeat=5):
            now = last
            for many in range(1, 6):
                now = states[5 - many] if ends[many - 1] == BREAK else now
                self.check_behind(1000, deeds + list(ends[:many]), now)
            self.check_last(1000, deeds + list(ends) + [KEEP], "not begun")

    def test_begun_one_after_the_other(self):
        for ends in itertools.product(ENDS, repeat=4):
            store = plain.PlainStore(300)
            deeds = self.changes(31, store, 120)
            for place, end in enumerate(ends):
                store.answer(BEGIN)
                deeds.append(BEGIN)
                deeds.extend(self.changes(place + 40, store, 70))
                store.answer(end)
                deeds.append(end)
                self.check_behind(300, deeds, list(store.rows.values()))

    def test_all_rows_cut_and_broken_off(self):
        rows = samples.some_rows(6, 200)
        deeds = [("bring", row) for row in rows] + [BEGIN] + [("cut", row[0]) for row in rows]
        self.check_behind(200, deeds, [])
        self.check_behind(200, deeds + [BREAK], rows)
        self.check_behind(200, deeds + [KEEP], [])

    def test_all_rows_brought_and_broken_off(self):
        rows = samples.some_rows(16, 200)
        deeds = [BEGIN] + [("bring", row) for row in rows]
        self.check_behind(200, deeds, rows)
        self.check_behind(200, deeds + [BREAK], [])
        self.check_behind(200, deeds + [BREAK] + deeds + [KEEP], rows)

    def test_all_rows_altered_and_broken_off(self):
        rows = samples.some_rows(26, 200)
        others = [(row[0], -row[1], "b" + row[2][1:]) for row in rows]
        deeds = [("bring", row) for row in rows] + [BEGIN] + [("alter", row) for row in others]
        self.check_behind(200, deeds, others)
        self.check_behind(200, deeds + [BREAK], rows)

    def test_changes_go_on_behind_what_was_broken_off(self):
        rows = samples.some_rows(36, 240)
        deeds = [("bring", row) for row in rows[:120]] + [BEGIN] + [("cut", row[0]) for row in rows[:100]] + [BREAK]
        deeds.extend([("bring", row) for row in rows[120:]] + [("cut", row[0]) for row in rows[:120:2]])
        self.check_behind(240, deeds, rows[1:120:2] + rows[120:])

    def test_a_thousand_within_one_another(self):
        deeds = []
        for number in range(1000):
            deeds.extend([BEGIN, ("bring", (number, number % 7, "t"))])
        rows = [(number, number % 7, "t") for number in range(1000)]
        self.check_behind(1000, deeds + [KEEP] * 999, rows)
        self.check_behind(1000, deeds + [KEEP] * 999 + [BREAK], [])
        self.check_behind(1000, deeds + [BREAK] * 400, rows[:600])
        self.check_behind(1000, deeds + [KEEP] * 400 + [BREAK], rows[:599])


if __name__ == "__main__":
    unittest.main()
