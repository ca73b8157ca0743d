"""What the tests share: calls by their names, answers call by call, and a look into a house."""

from handsoutline.fields import amount_of, tellings_of
from handsoutline.house import answers, answers_of
from handsoutline.outline import outline_of, row_of
from handsoutline.state import House
from handsoutline.tree import line_up

GREATEST = 18446744073709551615


def begin(desks):
    return [1, desks]


def make(desk, under, i):
    return [2, desk, under, i]


def move(desk, thing, under, i):
    return [3, desk, thing, under, i]


def tell(desk, thing, field, value):
    return [4, desk, thing, field, value]


def clear(desk, thing, field):
    return [5, desk, thing, field]


def add(desk, thing, amount):
    return [6, desk, thing, amount]


def less(desk, thing, amount):
    return [7, desk, thing, amount]


def back(desk, deed):
    return [8, desk, deed]


def undo(desk):
    return [9, desk]


def redo(desk):
    return [10, desk]


def send(source, target):
    return [11, source, target]


def comes(letter):
    return [12, letter]


def forget(desk):
    return [13, desk]


def tree(desk, thing):
    return [14, desk, thing]


def row(desk, thing):
    return [15, desk, thing]


def line(desk, thing):
    return [16, desk, thing]


def values(desk, thing, field):
    return [17, desk, thing, field]


def amounts(desk, thing):
    return [18, desk, thing]


def find(desk, field, value):
    return [19, desk, field, value]


def kept(desk):
    return [20, desk]


def same(desk, other):
    return [21, desk, other]


def letters(first, *pairs):
    """For each source and target a letter that's written and comes at once; first is the next letter's number."""
    return [call for k, pair in enumerate(pairs) for call in (send(*pair), comes(first + k))]


def flat(calls):
    return [number for call in calls for number in call]


def split(told):
    """The flat list of answers as one list a call."""
    found = []
    start = 0
    while start < len(told):
        end = start + 1 + told[start]
        found.append(told[start + 1:end])
        start = end
    return found


def ask(*calls):
    """Each call's answer, from `answers`."""
    return split(answers(flat(calls)))


def last(*calls):
    return ask(*calls)[-1]


class Looked:
    """A house that calls are done in, and that can be looked into."""

    def __init__(self, *calls):
        self.house = House(1)
        self.do(*calls)

    def do(self, *calls):
        return split(answers_of(self.house, flat(calls)))

    def hear(self, source, target):
        """A letter is written and comes at once, if one more may be written."""
        number = self.do(send(source, target))[0][0]
        if number >= 0:
            self.do(comes(number))

    def row(self, desk, under):
        return [put.act.thing for put in row_of(outline_of(self.house, desk), under)]

    def things(self, desk):
        return sorted(outline_of(self.house, desk).places)

    def line(self, desk, thing):
        return line_up(outline_of(self.house, desk).places, thing)

    def values(self, desk, thing, field):
        held = outline_of(self.house, desk).held
        return [(deed.number, deed.act.value) for deed in tellings_of(held, thing, field)]

    def amount(self, desk, thing):
        return amount_of(outline_of(self.house, desk).held, thing)

    def counts(self, desk):
        return list(self.house.desks[desk].counts)

    def all_asked(self, desk):
        """All that a desk answers of the outline, call by call."""
        there = [0, 1] + self.things(desk)
        found = self.do(*[call for thing in there for call in
                          (tree(desk, thing), row(desk, thing), line(desk, thing), amounts(desk, thing))])
        found += self.do(*[values(desk, thing, field) for thing in there for field in range(3)])
        return found + self.do(*[find(desk, field, value) for field in range(3) for value in range(9)])

    def all_rows(self, desk):
        return {under: self.row(desk, under) for under in [0, 1] + self.things(desk)}

    def all_seen(self, desk):
        """All that the desk's deeds come to, of every thing ever made, there or not."""
        made = range(self.house.next_thing)
        told = {(thing, field): self.values(desk, thing, field) for thing in made for field in range(3)}
        return (self.all_rows(desk), told, [self.amount(desk, thing) for thing in made])

    def all_kept(self):
        """All that the house keeps, so that a refusal can be shown to change none of it."""
        deeds = [(d.number, d.desk, d.rank, d.count, d.saw, repr(d.act.__class__), vars(d.act))
                 for d in self.house.deeds]
        desks = [vars(desk) for desk in self.house.desks]
        letters = [vars(letter) for letter in self.house.letters]
        return repr((deeds, desks, letters, self.house.next_thing))
