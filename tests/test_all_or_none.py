"""[7] Of some changes all are done, or none."""

import unittest

from twoorders.day import answers, both_orders

import samples
from cases import DayCase

ROWS = samples.some_rows(5, 110)
BROUGHT = [("bring", row) for row in ROWS]
ROOM = 120
FREE = 10 ** 35

# Five changes that ROWS take, and the rows that are there behind them.
GOOD = [("bring", (FREE, 4, "new")), ("alter", (ROWS[0][0], 8, ROWS[0][2])), ("cut", ROWS[1][0]),
        ("alter", (ROWS[2][0], ROWS[2][1], "other")), ("bring", (ROWS[1][0], 0, ""))]
BEHIND = [(FREE, 4, "new"), (ROWS[0][0], 8, ROWS[0][2]), (ROWS[2][0], ROWS[2][1], "other"),
          (ROWS[1][0], 0, "")] + ROWS[3:]

REFUSED = [(("bring", ROWS[5]), "taken"), (("bring", (ROWS[6][0], 1, "x")), "taken"),
           (("alter", (FREE + 1, 1, "a")), "missing"), (("cut", FREE + 1), "missing")]


class AllOrNone(DayCase):
    def test_all_are_done(self):
        self.check_last(ROOM, BROUGHT + [("all", GOOD)], "done")
        self.check_behind(ROOM, BROUGHT + [("all", GOOD)], BEHIND)

    def test_no_changes(self):
        self.check_last(0, [("all", [])], "done")
        self.check_last(ROOM, BROUGHT + [("all", [])], "done")
        self.check_behind(ROOM, BROUGHT + [("all", [])], ROWS)

    def test_none_is_done_with_a_refusal_at_any_place(self):
        for change, answer in REFUSED:
            for place in range(len(GOOD) + 1):
                changes = GOOD[:place] + [change] + GOOD[place:]
                self.check_refused(ROOM, BROUGHT, ("all", changes), (place, answer))

    def test_one_change_alone(self):
        for change, answer in REFUSED:
            self.check_refused(ROOM, BROUGHT, ("all", [change]), (0, answer))
        self.check_last(ROOM, BROUGHT + [("all", GOOD[:1])], "done")
        self.check_behind(ROOM, BROUGHT + [("all", GOOD[:1])], ROWS + [GOOD[0][1]])

    def test_the_first_that_is_refused_counts(self):
        changes = [GOOD[0], ("cut", FREE + 1), ("bring", ROWS[5]), ("cut", FREE + 2)]
        self.check_refused(ROOM, BROUGHT, ("all", changes), (1, "missing"))
        changes = [GOOD[0], GOOD[0], ("cut", FREE + 1)]
        self.check_refused(ROOM, BROUGHT, ("all", changes), (1, "taken"))

    def test_the_rest_is_not_done(self):
        changes = [("cut", FREE + 1)] + GOOD
        self.check_refused(ROOM, BROUGHT, ("all", changes), (0, "missing"))

    def test_full_at_the_place_where_room_ends(self):
        for room in range(6):
            changes = [("bring", (number, 1, "a")) for number in range(6)]
            self.check_refused(room, [], ("all", changes), (room, "full"))
            self.check_last(room, [("all", changes[:room])], "done")
            self.check_behind(room, [("all", changes[:room])], [change[1] for change in changes[:room]])

    def test_one_after_the_other(self):
        """Each change finds what those ahead of it in the list have done."""
        self.check_last(1, [("all", [("bring", (1, 1, "a")), ("alter", (1, 2, "b")), ("cut", 1),
                                     ("bring", (2, 3, "c"))])], "done")
        self.check_refused(1, [], ("all", [("bring", (1, 1, "a")), ("cut", 1), ("alter", (1, 2, "b"))]), (2, "missing"))
        self.check_refused(1, [("bring", (1, 1, "a"))], ("all", [("bring", (2, 1, "a")), ("cut", 1)]), (0, "full"))
        self.check_last(1, [("bring", (1, 1, "a")), ("all", [("cut", 1), ("bring", (2, 1, "a"))])], "done")

    def test_the_answer_is_a_pair(self):
        answer = answers(1, [("all", [("cut", 1)])])[0]
        self.assertEqual((type(answer), type(answer[0]), type(answer[1])), (tuple, int, str))

    def test_a_hundred_changes_and_a_refusal(self):
        rows = samples.some_rows(15, 300)
        brought = [("bring", row) for row in rows[:150]]
        changes = [("bring", row) for row in rows[150:250]] + [("cut", row[0]) for row in rows[50:150]]
        self.check_behind(250, brought + [("all", changes)], rows[:50] + rows[150:250])
        self.check_refused(250, brought, ("all", changes + [("cut", rows[50][0])]), (200, "missing"))
        self.check_refused(249, brought, ("all", changes), (99, "full"))


class WithinSomethingBegun(DayCase):
    def begun(self, depth):
        deeds = list(BROUGHT)
        for place in range(depth):
            deeds.extend([("begin",), ("cut", ROWS[10 + place][0])])
        return deeds

    def test_what_is_begun_around_it_stays_begun_behind_a_refusal(self):
        for depth in (1, 2, 3):
            for change, answer in REFUSED:
                for place in (0, 3, 5):
                    changes = GOOD[:place] + [change] + GOOD[place:]
                    self.check_refused(ROOM, self.begun(depth), ("all", changes), (place, answer))

    def test_what_is_begun_around_it_stays_begun_behind_changes(self):
        for depth in (1, 2, 3):
            deeds = self.begun(depth) + [("all", GOOD)]
            self.assertEqual(answers(ROOM, deeds + [("keep",)] * (depth + 1))[-depth - 2:],
                             ["done"] * (depth + 1) + ["not begun"])
            self.assertEqual(answers(ROOM, deeds + [("break",)] * (depth + 1))[-depth - 2:],
                             ["done"] * (depth + 1) + ["not begun"])

    def test_it_is_broken_off_with_what_is_begun_around_it(self):
        for depth in (1, 2, 3):
            deeds = self.begun(depth)
            self.check_behind(ROOM, deeds + [("all", GOOD)] + [("break",)] * depth, ROWS)
            without = both_orders(ROOM, self.begun(depth - 1))[0]
            self.check_behind(ROOM, deeds + [("all", GOOD), ("break",)], without)

    def test_it_is_kept_with_what_is_begun_around_it(self):
        kept = BROUGHT + [("begin",), ("all", GOOD), ("keep",)]
        self.check_behind(ROOM, kept, BEHIND)
        self.check_last(ROOM, kept + [("break",)], "not begun")

    def test_nothing_is_begun_by_it(self):
        for changes in ([], GOOD, [("cut", FREE)]):
            self.check_last(ROOM, BROUGHT + [("all", changes), ("keep",)], "not begun")
            self.check_last(ROOM, BROUGHT + [("all", changes), ("break",)], "not begun")


if __name__ == "__main__":
    unittest.main()
