"""[1] Questions by rank and by text are answered without looking at all rows."""

import unittest

from twoorders.questions import rows_from, rows_of_text, rows_within, spot_of
from twoorders.store import Store

MANY = 4000
FEW = 300


class Looks:
    def __init__(self):
        self.many = 0


class WatchedRow(tuple):
    """A row that counts how often one of its parts is looked at, in `looks` of its class."""

    looks = Looks()

    def __getitem__(self, place):
        WatchedRow.looks.many += 1
        return tuple.__getitem__(self, place)


class FewLooks(unittest.TestCase):
    def setUp(self):
        self.store = Store(MANY)
        for number in range(MANY):
            mixed = number * 1009 % MANY
            self.store.bring(WatchedRow((number, mixed, str(mixed * 7 % MANY).zfill(4))))

    def looks(self, function, *handed):
        WatchedRow.looks.many = 0
        found = function(*handed)
        return WatchedRow.looks.many, found

    def check_few(self, many, function, *handed):
        looks, found = self.looks(function, *handed)
        self.assertLess(looks, FEW)
        self.assertEqual(len(found), many)

    def test_rows_between_two(self):
        for middle in (0, 1, 1777, 2000, 3998):
            self.check_few(2, rows_within, self.store, "rank", middle, middle + 1)
            text = str(middle).zfill(4)
            self.check_few(1, rows_within, self.store, "text", text, text)

    def test_rows_of_a_text(self):
        for place in (0, 1234, 3999):
            self.check_few(1, rows_of_text, self.store, 0, MANY, str(place).zfill(4))

    def test_rows_from_a_spot_on(self):
        for word in ("rank", "text"):
            for spot in (0, 1234, 3990):
                self.check_few(10, rows_from, self.store, word, spot, 10)

    def test_spot_and_row_by_number(self):
        for number in (0, 1234, 3999):
            self.assertLess(self.looks(spot_of, self.store, "rank", number)[0], FEW)
            self.assertLess(self.looks(spot_of, self.store, "text", number)[0], FEW)
            self.assertLess(self.looks(self.store.row_of, number)[0], FEW)

    def test_changes(self):
        self.assertLess(self.looks(self.store.cut, 1234)[0], FEW)
        self.assertLess(self.looks(self.store.bring, WatchedRow((1234, 1, "b")))[0], FEW)
        self.assertLess(self.looks(self.store.alter, WatchedRow((77, 1, "b")))[0], FEW)

    def test_looks_are_counted(self):
        looks, found = self.looks(rows_within, self.store, "rank", 0, MANY)
        self.assertEqual(len(found), MANY)
        self.assertGreaterEqual(looks, MANY)


if __name__ == "__main__":
    unittest.main()
