"""[1] Deeds and lists handed to stores and days stay as they were, and lists given back stand by themselves."""

import copy
import unittest

from twoorders.day import answers, both_blocks, both_orders
from twoorders.errors import Full, Taken
from twoorders.questions import rows_from, rows_of_text, rows_within
from twoorders.store import store_with

import plain
import samples

TOP = samples.BIGGEST


class HandedIn(unittest.TestCase):
    def test_deeds_and_the_lists_within_them_stay(self):
        for seed in range(12):
            deeds = plain.SomeDeeds(seed, 120).day(90, 300)[0]
            self.assertTrue([deed for deed in deeds if deed[0] == "all" and len(deed[1]) > 2])
            kept = copy.deepcopy(deeds)
            for function in (answers, both_orders, both_blocks):
                function(90, deeds)
                self.assertEqual(deeds, kept)

    def test_a_refused_list_of_changes_stays(self):
        changes = [("bring", (1, 1, "a")), ("cut", 1), ("cut", 1), ("bring", (2, 1, "a"))]
        deeds = [("all", changes), ("begin",), ("all", changes), ("break",)]
        self.assertEqual(answers(5, deeds), [(2, "missing"), "done", (2, "missing"), "done"])
        self.assertEqual(changes, [("bring", (1, 1, "a")), ("cut", 1), ("cut", 1), ("bring", (2, 1, "a"))])
        self.assertIs(deeds[0][1], changes)

    def test_the_list_of_store_with_stays(self):
        for many in (0, 1, 8, 9, 120):
            rows = samples.some_rows(many, many)
            handed = list(rows)
            store = store_with(many + 1, handed)
            store.begin()
            store.bring((10 ** 33, 1, "a"))
            for row in rows:
                store.cut(row[0])
            self.assertEqual(handed, rows)
            store.break_off()
            self.assertEqual(handed, rows)

    def test_the_list_of_store_with_stays_where_it_is_refused(self):
        for kind, room, handed in ((Taken, 9, [(1, 1, "a"), (1, 2, "b")]), (Full, 1, [(1, 1, "a"), (2, 2, "b")])):
            kept = list(handed)
            with self.assertRaises(kind):
                store_with(room, handed)
            self.assertEqual(handed, kept)

    def test_the_list_of_store_with_may_be_changed_later(self):
        for many in (1, 5, 8, 9, 120):
            rows = samples.in_order("rank", samples.some_rows(many, many))
            handed = list(rows)
            store = store_with(many, handed)
            handed.clear()
            handed.append((10 ** 33, 1, "a"))
            self.assertEqual(store.by_rank.rows(), rows)
            self.assertEqual(store.by_text.rows(), samples.in_order("text", rows))
            self.assertEqual([store.row_of(row[0]) for row in rows], rows)


class GivenBack(unittest.TestCase):
    def lists_of(self, store):
        found = [rows_of_text(store, -TOP, TOP, "a"), rows_of_text(store, TOP, -TOP, "a")]
        for word, low, high in (("rank", -TOP, TOP), ("text", "", "~" * 100)):
            found.extend([rows_within(store, word, low, high), rows_within(store, word, high, low)])
            found.extend([rows_from(store, word, spot, many) for spot in (-1, 0, 3) for many in (0, 1, 8, 200)])
        return found

    def test_they_may_be_changed_by_who_has_them(self):
        for many in (0, 1, 8, 9, 120):
            rows = samples.some_rows(many, many)
            store = store_with(many, rows)
            expected = copy.deepcopy(self.lists_of(store))
            for given in self.lists_of(store):
                given.append((0, 0, "another"))
                given.reverse()
                given.pop()
                given.insert(0, (1, 1, "another"))
            self.assertEqual(self.lists_of(store), expected)
            self.assertEqual(store.by_rank.rows(), samples.in_order("rank", rows))
            self.assertEqual(store.by_text.rows(), samples.in_order("text", rows))

    def test_they_stay_when_the_store_changes(self):
        rows = samples.some_rows(3, 60)
        store = store_with(100, rows)
        given = self.lists_of(store)
        kept = copy.deepcopy(given)
        for row in rows[:50]:
            store.cut(row[0])
        for number in range(10 ** 33, 10 ** 33 + 40):
            store.bring((number, 0, "a"))
        self.assertEqual(given, kept)

    def test_each_call_gives_other_lists(self):
        for many in (0, 1, 9, 60):
            store = store_with(many, samples.some_rows(many, many))
            given = self.lists_of(store) + self.lists_of(store) + store.by_rank.blocks + store.by_text.blocks
            self.assertEqual(len({id(one) for one in given}), len(given))

    def test_the_lists_of_one_day_have_nothing_in_common(self):
        question = ("from", "rank", 0, 9)
        deeds = [("bring", (1, 1, "a")), question, question, ("within", "rank", 0, 9), ("within", "text", "", "~"),
                 ("both", 0, 9, "a")]
        told = answers(5, deeds)[1:]
        told[0].append((2, 2, "b"))
        self.assertEqual(told[1:], [[(1, 1, "a")]] * 4)

    def test_answers_stay_as_they_were_told(self):
        rows = samples.some_rows(4, 40)
        deeds = [("bring", row) for row in rows] + [("from", "rank", 0, 40), ("within", "text", "", "~" * 100)]
        deeds.extend([("cut", row[0]) for row in rows])
        told = answers(40, deeds)
        self.assertEqual(told[40:42], [samples.in_order("rank", rows), samples.in_order("text", rows)])

    def test_orders_and_blocks_may_be_changed(self):
        deeds = [("bring", row) for row in samples.some_rows(5, 50)]
        for function in (both_orders, both_blocks):
            given = function(50, deeds)
            kept = copy.deepcopy(given)
            again = function(50, deeds)
            for one in given:
                one.clear()
            self.assertEqual(again, kept)
            self.assertEqual(function(50, deeds), kept)

    def test_the_lists_handed_in_are_not_those_given_back(self):
        changes = [("bring", (1, 1, "a"))]
        deeds = [("all", changes), ("from", "rank", 0, 5)]
        told = answers(5, deeds)
        self.assertIsNot(told, deeds)
        told.clear()
        self.assertEqual((deeds, changes), ([("all", [("bring", (1, 1, "a"))]), ("from", "rank", 0, 5)],
                                            [("bring", (1, 1, "a"))]))


if __name__ == "__main__":
    unittest.main()
