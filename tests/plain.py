"""A day as the document tells it, done slowly: a plain dict of rows, copied whole for each thing begun."""

import random

import samples

CHANGES = ("bring", "alter", "cut")
FAR = 10 ** 33


class PlainStore:
    def __init__(self, room):
        self.room = room
        self.rows = {}
        self.begun = []

    def in_order(self, word):
        return samples.in_order(word, list(self.rows.values()))

    def both_orders(self):
        return (self.in_order("rank"), self.in_order("text"))

    def answer(self, deed):
        return getattr(self, "do_" + deed[0])(*deed[1:])

    def do_bring(self, row):
        if row[0] in self.rows:
            return "taken"
        if len(self.rows) == self.room:
            return "full"
        self.rows[row[0]] = row
        return "done"

    def do_alter(self, row):
        if row[0] not in self.rows:
            return "missing"
        self.rows[row[0]] = row
        return "done"

    def do_cut(self, number):
        if number not in self.rows:
            return "missing"
        del self.rows[number]
        return "done"

    def do_begin(self):
        self.begun.append(dict(self.rows))
        return "done"

    def do_keep(self):
        if not self.begun:
            return "not begun"
        self.begun.pop()
        return "done"

    def do_break(self):
        if not self.begun:
            return "not begun"
        self.rows = self.begun.pop()
        return "done"

    def do_all(self, changes):
        before = dict(self.rows)
        for place, change in enumerate(changes):
            answer = self.answer(change)
            if answer != "done":
                self.rows = before
                return (place, answer)
        return "done"

    def do_row(self, number):
        return self.rows.get(number, "missing")

    def do_within(self, word, low, high):
        if word not in samples.WORDS:
            return "no order"
        return samples.within(word, list(self.rows.values()), low, high)

    def do_both(self, low, high, text):
        return [row for row in self.in_order("rank") if row[2] == text and low <= row[1] <= high]

    def do_from(self, word, spot, many):
        if word not in samples.WORDS:
            return "no order"
        return [row for place, row in enumerate(self.in_order(word)) if spot <= place < spot + many]

    def do_spot(self, word, number):
        if word not in samples.WORDS:
            return "no order"
        if number not in self.rows:
            return "missing"
        return self.in_order(word).index(self.rows[number])


class SomeDeeds:
    """Deeds by chance, the same for the same seed; `numbers` bounds how often they meet one another."""

    def __init__(self, seed, numbers):
        self.chance = random.Random(seed)
        self.numbers = samples.some_numbers(self.chance, numbers)

    def number(self):
        return self.chance.choice(self.numbers)

    def row(self):
        return (self.number(), self.chance.choice(samples.RANKS), self.chance.choice(samples.TEXTS))

    def altered(self, row):
        """The row with another rank, another text, both or neither."""
        rank = self.chance.choice((row[1], self.chance.choice(samples.RANKS)))
        text = self.chance.choice((row[2], self.chance.choice(samples.TEXTS)))
        return (row[0], rank, text)

    def change(self, plain):
        """A change that mostly fits the rows of a plain store, so that days grow and don't only refuse."""
        name = self.chance.choice(CHANGES)
        there = list(plain.rows.values())
        if not there or self.chance.random() < 0.2:
            return (name, self.number()) if name == "cut" else (name, self.row())
        row = self.chance.choice(there)
        if name == "bring":
            return (name, self.row())
        return (name, row[0]) if name == "cut" else (name, self.altered(row))

    def growing(self, plain):
        return ("bring", self.row()) if self.chance.random() < 0.6 else self.change(plain)

    def all_or_none(self, plain):
        return ("all", [self.growing(plain) for _ in range(self.chance.randrange(6))])

    def question(self, plain):
        word = self.chance.choice(samples.WORDS + ("rank", "text", "size"))
        name = self.chance.choice(("row", "within", "both", "from", "spot"))
        if name == "row":
            return (name, self.number())
        if name == "both":
            return (name, self.chance.choice(samples.RANKS), self.chance.choice(samples.RANKS),
                    self.chance.choice(samples.TEXTS))
        if name == "from":
            most = len(plain.rows) + 3
            return (name, word, self.chance.randint(-3, most), self.chance.choice((0, 1, 2, 9, most, FAR)))
        if name == "spot":
            return (name, word, self.number())
        ends = samples.TEXTS if word == "text" else samples.RANKS
        return (name, word, self.chance.choice(ends), self.chance.choice(ends))

    def day(self, room, many):
        """The deeds of a day, with the plain answers and the plain store behind it."""
        plain = PlainStore(room)
        deeds = []
        told = []
        while len(deeds) < many:
            kind = self.chance.choices(("growing", "change", "all_or_none", "question", "begun"),
                                       (50, 20, 8, 14, 8))[0]
            if kind == "begun":
                deed = (self.chance.choice(("begin", "begin", "keep", "break")),)
            else:
                deed = getattr(self, kind)(plain)
            deeds.append(deed)
            told.append(plain.answer(deed))
        return deeds, told, plain
