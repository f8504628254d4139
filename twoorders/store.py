"""A store: its rows by number and in both orders, and what is begun in it."""

from twoorders.errors import Full, Missing, NotBegun, Taken
from twoorders.order import Order
from twoorders.rows import RANK_WORD, TEXT_WORD


class Store:

    def __init__(self, room):
        self.room = room
        self.by_number = {}
        self.by_rank = Order(RANK_WORD)
        self.by_text = Order(TEXT_WORD)
        # The steps to go back, pairs of the row that went and the row that came, None for no row.
        self.steps = []
        # How many steps there were when each thing that is still begun was begun, the outermost first.
        self.marks = []

    def bring(self, row):
        number = row[0]
        if number in self.by_number:
            raise Taken(f"a row with the number {number} is there")
        if len(self.by_number) >= self.room:
            raise Full("there is no room for another row")
        self.change(None, row)

    def alter(self, row):
        self.change(self.row_of(row[0]), row)

    def cut(self, number):
        self.change(self.row_of(number), None)

    def begin(self):
        self.marks.append(len(self.steps))

    def keep(self):
        self.end_of_last()
        # Its steps stay behind the mark of what it was begun in; without that none can go back.
        if len(self.marks) == 0:
            self.steps = []

    def break_off(self):
        mark = self.end_of_last()
        while len(self.steps) > mark:
            step = self.steps.pop()
            self.exchange(step[1], step[0])

    def row_of(self, number):
        if number not in self.by_number:
            raise Missing(f"no row has the number {number}")
        return self.by_number[number]

    def end_of_last(self):
        if len(self.marks) == 0:
            raise NotBegun("nothing is begun")
        return self.marks.pop()

    def change(self, old, new):
        self.exchange(old, new)
        if len(self.marks) > 0:
            self.steps.append((old, new))

    # The one place where rows come and go, so that the rows by number and both orders stay alike.
    def exchange(self, old, new):
        if old is not None:
            self.by_number.pop(old[0])
            self.by_rank.let_out(old)
            self.by_text.let_out(old)
        if new is not None:
            self.by_number[new[0]] = new
            self.by_rank.take_in(new)
            self.by_text.take_in(new)


def store_with(room, rows):
    store = Store(room)
    for row in rows:
        store.bring(row)
    return store
