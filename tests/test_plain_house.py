"""The program beside a second, plain house, written apart from it: any calls must be answered alike."""

import random
import unittest

from tests.helper import GREATEST, Looked, ask, begin


class PlainHouse:
    def __init__(self, desks):
        self.deeds = []
        self.letters = 0
        self.things = 2
        self.known = [set() for desk in range(desks)]
        self.surely = [[set() for other in range(desks)] for desk in range(desks)]
        self.clock = [0] * desks

    def hear(self, source, target):
        self.known[target] |= self.known[source]
        self.surely[target][source] |= self.known[source]
        self.clock[target] = max(self.clock[target], self.clock[source])

    def sorted_by_stamp(self, numbers):
        return sorted(numbers, key=lambda number: self.deeds[number]['stamp'])

    def holds(self, desk, number):
        about = [n for n in self.known[desk] if self.deeds[n].get('of') == number]
        last = self.sorted_by_stamp(about)[-1:]
        return self.deeds[number]['do'] in ('back', 'again') or not last or self.deeds[last[0]]['do'] == 'again'

    def parents(self, desk):
        parent = {}
        for n in self.sorted_by_stamp(self.known[desk]):
            deed = self.deeds[n]
            if deed['do'] == 'put' and self.holds(desk, n):
                if self.there(parent, deed['under']) and not self.inside(parent, deed['under'], deed['thing']):
                    parent[deed['thing']] = (deed['under'], n)
        return parent

    def there(self, parent, thing):
        return thing < 2 or thing in parent

    def inside(self, parent, thing, outer):
        return thing == outer or (thing in parent and self.inside(parent, parent[thing][0], outer))

    def at(self, desk, under, spot, side):
        return self.sorted_by_stamp([n for n in self.known[desk] if self.deeds[n]['do'] == 'put'
                                     and self.deeds[n]['under'] == under and self.deeds[n]['spot'] == (spot, side)])

    def in_order(self, desk, under, spot=None):
        found = [] if spot is None else [spot]
        lefts = [self.in_order(desk, under, n) for n in self.at(desk, under, spot, 'left')]
        rights = [self.in_order(desk, under, n) for n in self.at(desk, under, spot, 'right')]
        return sum(lefts, []) + found + sum(rights, [])

    def row(self, desk, under):
        parent = self.parents(desk)
        puts = [n for n in self.in_order(desk, under) if parent.get(self.deeds[n]['thing']) == (under, n)]
        return [self.deeds[n]['thing'] for n in puts]

    def do(self, desk, **deed):
        self.clock[desk] += 1
        number = len(self.deeds)
        self.deeds.append(dict(deed, stamp=(self.clock[desk], desk)))
        self.known[desk].add(number)
        return number

    def put(self, desk, thing, under, row, i):
        behind = self.parents(desk)[row[i - 1]][1] if i else None
        spot = (behind, 'right')
        if self.at(desk, under, behind, 'right'):
            order = [None] + self.in_order(desk, under)
            spot = (order[order.index(behind) + 1], 'left')
        return self.do(desk, do='put', thing=thing, under=under, spot=spot)

    def answer(self, call, desk, *rest):
        desks = len(self.known)
        if call == 11:
            return self.send(desk, rest[0])
        if desk >= desks:
            return [-2]
        if call <= 7:
            return [self.make, self.move, self.tell, self.clear, self.add, self.less][call - 2](desk, *rest)
        return [self.back, self.undo, self.redo][call - 8](desk, *rest)

    def full(self):
        return len(self.deeds) == 100

    def make(self, desk, under, i):
        if not self.there(self.parents(desk), under):
            return [-3]
        row = self.row(desk, under)
        if len(row) < i:
            return [-1]
        if self.full():
            return [-5]
        self.things += 1
        return [self.put(desk, self.things - 1, under, row, i), self.things - 1]

    def move(self, desk, thing, under, i):
        parent = self.parents(desk)
        if thing not in parent or not self.there(parent, under):
            return [-3]
        if self.inside(parent, under, thing):
            return [-6]
        row = [other for other in self.row(desk, under) if other != thing]
        if len(row) < i:
            return [-1]
        return [-5] if self.full() else [self.put(desk, thing, under, row, i)]

    def change(self, desk, thing, fits, do):
        if not self.there(self.parents(desk), thing):
            return [-3]
        if not fits:
            return [-1]
        return [-5] if self.full() else [self.do(desk, do=do)]

    def tell(self, desk, thing, field, value):
        return self.change(desk, thing, field in (0, 1, 2) and value <= 1000 ** 3, 'tell')

    def clear(self, desk, thing, field):
        return self.change(desk, thing, field in (0, 1, 2), 'clear')

    def add(self, desk, thing, amount):
        return self.change(desk, thing, amount <= 1000 ** 3, 'add')

    def less(self, desk, thing, amount):
        return self.change(desk, thing, amount <= 1000 ** 3, 'less')

    def own(self, desk):
        return [n for n in self.sorted_by_stamp(self.known[desk]) if self.deeds[n]['stamp'][1] == desk]

    def own_changes(self, desk):
        return [n for n in self.own(desk) if 'of' not in self.deeds[n]]

    def late(self, desk, number):
        return self.clock[desk] + 1 - self.deeds[number]['stamp'][0] > 20

    def back(self, desk, number):
        if number not in self.own_changes(desk):
            return [-3]
        if not self.holds(desk, number) or self.late(desk, number):
            return [-4]
        return [-5] if self.full() else [self.do(desk, do='back', of=number)]

    def again(self, desk, numbers, do):
        if not numbers:
            return [-3]
        if self.late(desk, numbers[-1]):
            return [-4]
        if self.full():
            return [-5]
        self.do(desk, do=do, of=numbers[-1])
        return [numbers[-1]]

    def undo(self, desk):
        return self.again(desk, [n for n in self.own_changes(desk) if self.holds(desk, n)], 'back')

    def redo(self, desk):
        backs = [n for n in self.own(desk) if self.deeds[n]['do'] == 'back']
        backs = [n for n in backs if not self.holds(desk, self.deeds[n]['of'])]
        if backs and any(self.deeds[n]['stamp'] > self.deeds[backs[-1]]['stamp'] for n in self.own_changes(desk)):
            return [-3]
        return self.again(desk, [self.deeds[n]['of'] for n in backs], 'again')

    def send(self, source, target):
        if max(source, target) >= len(self.known) or source == target:
            return [-2]
        if self.letters == 200:
            return [-5]
        self.letters += 1
        return [self.letters - 1, len(self.known[source] - self.surely[source][target])]


def one_of(chance, fitting, others):
    """Mostly one that fits, so that lines of calls come far; now and then any other one, or the greatest."""
    return chance.choice(list(fitting) + [0]) if chance.randrange(8) else chance.choice(others + [GREATEST])


def any_call(chance, plain, kinds):
    call = chance.choice(kinds)
    desks = len(plain.known)
    desk = one_of(chance, list(range(desks)) * 2, list(range(desks + 1)))
    here = desk if desk < desks else 0
    thing, under = [one_of(chance, plain.parents(here), list(range(plain.things + 1))) for k in range(2)]
    length = len(plain.row(here, under))
    i = one_of(chance, range(length + 1), [length + 1])
    field = one_of(chance, (0, 1, 2), [3])
    number = one_of(chance, (5, 10 ** 9), [10 ** 9 + 1])
    deed = one_of(chance, plain.own_changes(here)[-25:], list(range(len(plain.deeds) + 1)))
    numbers = {2: [under, i], 3: [thing, under, i], 4: [thing, field, number], 5: [thing, field], 6: [thing, number],
               7: [thing, number], 8: [deed], 9: [], 10: [], 11: [one_of(chance, range(desks), [desks])]}
    return [call, desk] + numbers[call]


class Alike(unittest.TestCase):
    def kinds(self, chance):
        return chance.choice([list(range(2, 12)), [2, 2, 2, 3, 3, 3, 9], [2, 2, 6, 6, 8, 9, 9, 10, 10, 10],
                              [2, 3, 3, 3, 8, 9, 10, 11], [6, 8, 8, 9, 10, 10]])

    def test_any_calls_are_answered_alike(self):
        for seed in range(60):
            chance = random.Random(seed)
            desks = chance.choice([1, 1, 2, 3, 6])
            plain = PlainHouse(desks)
            kinds = self.kinds(chance)
            calls = []
            expected = [[0]]
            for step in range(chance.choice([30, 100, 240])):
                calls.append(any_call(chance, plain, kinds))
                expected.append(plain.answer(*calls[-1]))
            self.assertEqual(ask(begin(desks), *calls), expected, seed)

    def test_any_calls_of_desks_that_hear_of_one_another(self):
        for seed in range(60):
            chance = random.Random(seed)
            desks = chance.randrange(2, 5)
            plain = PlainHouse(desks)
            looked = Looked(begin(desks))
            kinds = self.kinds(chance)
            for step in range(chance.choice([30, 100, 150])):
                if chance.randrange(5) == 0:
                    pair = chance.sample(range(desks), 2)
                    plain.hear(*pair)
                    looked.hear(*pair)
                call = any_call(chance, plain, kinds)
                self.assertEqual(looked.do(call), [plain.answer(*call)], (seed, step))
            for desk in range(desks):
                rows = {under: plain.row(desk, under) for under in [0, 1] + sorted(plain.parents(desk))}
                self.assertEqual(looked.all_rows(desk), rows)
