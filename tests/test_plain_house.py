"""The program beside a second, plain house, written apart from it: any calls must be answered alike."""

import random
import unittest

from tests.helper import GREATEST, ask, begin

CHANGES = ('put', 'tell', 'clear', 'add')


class View:
    """What some deeds come to. Each deed is a dict; deeds are known by their numbers."""

    def __init__(self, deeds, known):
        self.deeds = deeds
        self.known = sorted(known, key=lambda number: deeds[number]['stamp'])
        self.held = [number for number in self.known if self.holds(number)]
        self.parent = {}
        for number in self.held:
            self.do_put(number, **deeds[number])

    def holds(self, number):
        about = [n for n in self.known if self.deeds[n].get('of') == number]
        about = [n for n in about if self.deeds[n]['stamp'][0] - self.deeds[number]['stamp'][0] <= 20]
        return not about or self.deeds[about[-1]]['do'] == 'again'

    def do_put(self, number, do, thing=None, under=None, **rest):
        if do == 'put' and self.there(under) and not self.inside(under, thing):
            self.parent[thing] = (under, number)

    def there(self, thing):
        return thing < 2 or thing in self.parent

    def inside(self, thing, outer):
        return thing == outer or (thing in self.parent and self.inside(self.parent[thing][0], outer))

    def at(self, under, spot, side):
        return [n for n in self.known if self.deeds[n]['do'] == 'put' and self.deeds[n]['under'] == under
                and self.deeds[n]['spot'] == (spot, side)]

    def in_order(self, under, spot=None):
        found = [] if spot is None else [spot]
        lefts = [self.in_order(under, n) for n in self.at(under, spot, 'left')]
        rights = [self.in_order(under, n) for n in self.at(under, spot, 'right')]
        return sum(lefts, []) + found + sum(rights, [])

    def row(self, under):
        if under not in [pair[0] for pair in self.parent.values()]:
            return []
        things = [self.deeds[n]['thing'] for n in self.in_order(under) if (under, n) in self.parent.values()]
        assert len(things) == len(set(things))
        return things

    def tree(self, thing, depth=1):
        found = []
        for other in self.row(thing):
            found += [(other, depth)] + self.tree(other, depth + 1)
        return found

    def line(self, thing):
        return [thing] + (self.line(self.parent[thing][0]) if thing in self.parent else [])

    def values(self, thing, field):
        about = [n for n in self.held if self.deeds[n]['do'] in ('tell', 'clear')
                 and (self.deeds[n]['thing'], self.deeds[n]['field']) == (thing, field)]
        hidden = set().union(*[self.deeds[n]['saw'] for n in about])
        return [(n, self.deeds[n]['value']) for n in about if self.deeds[n]['do'] == 'tell' and n not in hidden]

    def amount(self, thing):
        return sum(self.deeds[n]['amount'] for n in self.held
                   if self.deeds[n]['do'] == 'add' and self.deeds[n]['thing'] == thing)


class PlainHouse:
    def __init__(self, desks):
        self.all = range(desks)
        self.deeds = []
        self.letters = []
        self.things = 2
        self.known = [set() for desk in self.all]
        self.forgotten = [set() for desk in self.all]
        self.surely = [[set() for other in self.all] for desk in self.all]
        self.heard = [[0 for other in self.all] for desk in self.all]
        self.clock = [0] * desks
        self.views = {}

    def view(self, desk):
        """What a desk has had never shrinks, so a view is known by how much that is."""
        which = (desk, len(self.known[desk]))
        if which not in self.views:
            self.views[which] = View(self.deeds, self.known[desk])
        return self.views[which]

    def answer(self, call, desk, *rest):
        if call == 12:
            return self.comes(desk)
        if desk not in self.all or (call in (11, 21) and rest[0] not in self.all):
            return [-2]
        if call in (14, 15, 16, 17, 18) and not self.view(desk).there(rest[0]):
            return [-3]
        return [self.make, self.move, self.tell, self.clear, self.add, self.less, self.back, self.undo, self.redo,
                self.send, self.comes, self.forget, self.tree, self.row, self.line, self.values, self.amounts,
                self.find, self.kept, self.same][call - 2](desk, *rest)

    def do(self, desk, **deed):
        self.clock[desk] += 1
        number = len(self.deeds)
        self.deeds.append(dict(deed, stamp=(self.clock[desk], desk), saw=frozenset(self.known[desk])))
        self.known[desk].add(number)
        return number

    def put(self, desk, thing, under, row, i):
        view = self.view(desk)
        behind = view.parent[row[i - 1]][1] if i else None
        spot = (behind, 'right')
        if view.at(under, behind, 'right'):
            order = [None] + view.in_order(under)
            spot = (order[order.index(behind) + 1], 'left')
        return self.do(desk, do='put', thing=thing, under=under, spot=spot)

    def full(self):
        return len(self.deeds) == 100

    def make(self, desk, under, i):
        if not self.view(desk).there(under):
            return [-3]
        row = self.view(desk).row(under)
        if len(row) < i:
            return [-1]
        if self.full():
            return [-5]
        self.things += 1
        return [self.put(desk, self.things - 1, under, row, i), self.things - 1]

    def move(self, desk, thing, under, i):
        view = self.view(desk)
        if thing not in view.parent or not view.there(under):
            return [-3]
        if view.inside(under, thing):
            return [-6]
        row = [other for other in view.row(under) if other != thing]
        if len(row) < i:
            return [-1]
        return [-5] if self.full() else [self.put(desk, thing, under, row, i)]

    def change(self, desk, fits, **deed):
        if not self.view(desk).there(deed['thing']):
            return [-3]
        if not fits:
            return [-1]
        return [-5] if self.full() else [self.do(desk, **deed)]

    def tell(self, desk, thing, field, value):
        fits = field in (0, 1, 2) and value <= 1000 ** 3
        return self.change(desk, fits, do='tell', thing=thing, field=field, value=value)

    def clear(self, desk, thing, field):
        return self.change(desk, field in (0, 1, 2), do='clear', thing=thing, field=field)

    def add(self, desk, thing, amount):
        return self.change(desk, amount <= 1000 ** 3, do='add', thing=thing, amount=amount)

    def less(self, desk, thing, amount):
        return self.change(desk, amount <= 1000 ** 3, do='add', thing=thing, amount=-amount)

    def own(self, desk, *kinds):
        return [n for n in self.view(desk).known
                if self.deeds[n]['stamp'][1] == desk and self.deeds[n]['do'] in kinds]

    def late(self, desk, number):
        return self.clock[desk] + 1 - self.deeds[number]['stamp'][0] > 20

    def back(self, desk, number):
        if number not in self.own(desk, *CHANGES):
            return [-3]
        if number not in self.view(desk).held or self.late(desk, number):
            return [-4]
        return [-5] if self.full() else [self.do(desk, do='back', of=number)]

    def again(self, desk, numbers, do):
        if not numbers:
            return [-3]
        if self.late(desk, numbers[-1]):
            return [-4]
        if self.full():
            return [-5]
        self.do(desk, do=do, of=numbers[-1])
        return [numbers[-1]]

    def undo(self, desk):
        return self.again(desk, [n for n in self.own(desk, *CHANGES) if n in self.view(desk).held], 'back')

    def redo(self, desk):
        backs = [n for n in self.own(desk, 'back') if self.deeds[n]['of'] not in self.view(desk).held]
        later = [n for n in self.own(desk, *CHANGES) if backs and n > backs[-1]]
        return self.again(desk, [] if later else [self.deeds[n]['of'] for n in backs], 'again')

    def send(self, source, target):
        if source == target:
            return [-2]
        if len(self.letters) == 200:
            return [-5]
        self.letters.append((source, target, set(self.known[source]), self.clock[source]))
        return [len(self.letters) - 1, len(self.known[source] - self.surely[source][target])]

    def comes(self, letter):
        if letter >= len(self.letters):
            return [-2]
        source, target, known, clock = self.letters[letter]
        many = len(known - self.known[target])
        self.known[target] |= known
        self.surely[target][source] |= known
        self.clock[target] = max(self.clock[target], clock)
        self.heard[target][source] = max(self.heard[target][source], clock)
        return [many]

    def keeps(self, desk):
        return [n for n in self.view(desk).known if n not in self.forgotten[desk]]

    def settled(self, desk):
        return min(self.clock[other] if other == desk else self.heard[desk][other] for other in self.all)

    def ripe(self, desk):
        keeps = self.keeps(desk)
        fit = [n for n in keeps if self.deeds[n]['stamp'][0] + 20 <= self.settled(desk)
               and all(other == desk or n in self.surely[desk][other] for other in self.all)]
        return [n for k, n in enumerate(keeps) if keeps[:k + 1] == fit[:k + 1]]

    def forget(self, desk):
        ripe = self.ripe(desk)
        self.forgotten[desk] |= set(ripe)
        return [len(ripe), len(self.forgotten[desk])]

    def kept(self, desk):
        return [len(self.keeps(desk)), len(self.ripe(desk)), self.settled(desk), len(self.forgotten[desk])]

    def tree(self, desk, thing):
        found = self.view(desk).tree(thing)
        return [len(found)] + [number for pair in found for number in pair]

    def row(self, desk, thing):
        found = self.view(desk).row(thing)
        return [len(found)] + found

    def line(self, desk, thing):
        found = self.view(desk).line(thing)
        return [len(found)] + found

    def values(self, desk, thing, field):
        if field not in (0, 1, 2):
            return [-1]
        found = self.view(desk).values(thing, field)
        return [len(found)] + [number for pair in found for number in pair]

    def amounts(self, desk, thing):
        view = self.view(desk)
        inner = [other for other in range(2, self.things) if view.there(other) and thing in view.line(other)[1:]]
        own = view.amount(thing)
        return [len(inner), own, own + sum(view.amount(other) for other in inner)]

    def find(self, desk, field, value):
        if field not in (0, 1, 2):
            return [-1]
        view = self.view(desk)
        found = [thing for thing, depth in view.tree(0) if value in dict(view.values(thing, field)).values()]
        return [len(found)] + found

    def same(self, desk, other):
        return [int(self.known[desk] == self.known[other]), int(self.view(desk).tree(0) == self.view(other).tree(0))]


def one_of(chance, fitting, others):
    """Mostly one that fits, so that lines of calls come far; now and then any other one, or the greatest."""
    return chance.choice(list(fitting) + [0]) if chance.randrange(8) else chance.choice(others + [GREATEST])


def any_letter(chance, plain):
    """Mostly one of the last, so that desks hear of one another; now and then an old one."""
    many = len(plain.letters)
    return one_of(chance, range(max(0, many - 4), many) if many else [0], list(range(many + 1)))


def any_call(chance, plain, kinds):
    call = chance.choice(kinds)
    desks = len(plain.all)
    if call == 12:
        return [12, any_letter(chance, plain)]
    desk = one_of(chance, list(range(desks)) * 2, list(range(desks + 1)))
    here = desk if desk < desks else 0
    thing, under = [one_of(chance, plain.view(here).parent, list(range(plain.things + 1))) for k in range(2)]
    length = len(plain.view(here).row(under))
    i = one_of(chance, range(length + 1), [length + 1])
    field = one_of(chance, (0, 1, 2), [3])
    number = one_of(chance, (5, 10 ** 9), [10 ** 9 + 1])
    deed = one_of(chance, plain.own(here, *CHANGES)[-25:], list(range(len(plain.deeds) + 1)))
    other = one_of(chance, range(desks), [desks])
    numbers = {2: [under, i], 3: [thing, under, i], 4: [thing, field, number], 5: [thing, field], 6: [thing, number],
               7: [thing, number], 8: [deed], 11: [other], 14: [thing], 15: [thing], 16: [thing], 17: [thing, field],
               18: [thing], 19: [field, number], 21: [other]}
    return [call, desk] + numbers.get(call, [])


DEEDS = ([2, 3, 4, 5, 6, 7, 8, 9, 10], [2, 2, 2, 3, 3, 3, 9], [2, 2, 6, 6, 8, 9, 9, 10, 10, 10], [2, 3, 3, 3, 8, 9, 10],
         [2, 4, 4, 4, 5, 5, 8, 9, 10], [6, 8, 8, 9, 10, 10])
POST = ([], [11, 12], [11, 12, 12] * 2, [11, 11, 12, 12] * 4)
QUESTIONS = ([13, 14, 15, 16, 17, 18, 19, 20, 21], [14, 15, 21], [13, 13, 20, 20], [17, 17, 19, 19, 18])


class Alike(unittest.TestCase):
    def run_one(self, chance, desks, kinds, many):
        plain = PlainHouse(desks)
        calls = []
        expected = [[0]]
        for step in range(many):
            calls.append(any_call(chance, plain, kinds))
            expected.append(plain.answer(*calls[-1]))
        self.assertEqual(ask(begin(desks), *calls), expected, calls)
        return plain

    def some_rounds(self, chance, plain, kinds):
        """In each round some deeds; one desk writes to all others, which write back; some letters stay on the way."""
        while True:
            for k in range(chance.randrange(1, 14)):
                yield any_call(chance, plain, kinds)
            hub = chance.choice(plain.all)
            others = [desk for desk in plain.all if desk != hub]
            for pair in [(hub, desk) for desk in others] + [(desk, hub) for desk in others]:
                yield [11, *pair]
                if chance.randrange(15):
                    yield [12, len(plain.letters) - 1]
            for k in range(3):
                yield any_call(chance, plain, [12, 13, 13, 13, 20, 20, 14, 17, 19, 21])

    def test_any_calls_are_answered_alike(self):
        for seed in range(120):
            chance = random.Random(seed)
            kinds = chance.choice(DEEDS) + chance.choice(POST) + chance.choice(QUESTIONS)
            self.run_one(chance, chance.choice([1, 2, 2, 3, 6]), kinds, chance.choice([30, 100, 249]))

    def test_any_calls_of_desks_that_write_often_and_forget(self):
        forgotten = 0
        for seed in range(1000, 1080):
            chance = random.Random(seed)
            kinds = chance.choice(DEEDS) + [11, 12, 12] * 4 + [13, 20] + chance.choice(QUESTIONS)
            plain = self.run_one(chance, chance.choice([1, 2, 2, 3]), kinds, 249)
            forgotten += sum(len(numbers) for numbers in plain.forgotten)
        self.assertGreater(forgotten, 300)

    def test_rounds_of_letters(self):
        forgotten = 0
        for seed in range(2000, 2080):
            chance = random.Random(seed)
            plain = PlainHouse(chance.choice([2, 3, 4, 6]))
            calls = []
            expected = [[0]]
            for call in self.some_rounds(chance, plain, chance.choice(DEEDS)):
                calls.append(call)
                expected.append(plain.answer(*call))
                if len(calls) == 249:
                    break
            self.assertEqual(ask(begin(len(plain.all)), *calls), expected, calls)
            forgotten += sum(len(numbers) for numbers in plain.forgotten)
        self.assertGreater(forgotten, 300)
