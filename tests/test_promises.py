"""The promises 1 to 6, over many houses: letters come late, doubled or never, and some of the desks forget."""

import random
import unittest

from handsoutline.deeds import stamp
from handsoutline.outline import Outline
from handsoutline.state import had
from tests.helper import (Looked, add, ask, back, begin, clear, comes, forget, kept, less, line, make, move, redo,
                          row, same, send, tell, tree, undo)


def any_thing(chance, looked, desk):
    """Mostly one that's there, so that most calls are not refused."""
    if chance.randrange(8):
        return chance.choice([0, 1] + looked.things(desk))
    return chance.randrange(looked.house.next_thing)


def any_call(chance, looked, desk):
    thing = any_thing(chance, looked, desk)
    under = any_thing(chance, looked, desk)
    return chance.choice([
        make(desk, under, chance.randrange(4)), make(desk, under, 0), move(desk, thing, under, chance.randrange(3)),
        move(desk, thing, under, 0), tell(desk, thing, chance.randrange(2), chance.randrange(9)),
        clear(desk, thing, chance.randrange(2)), add(desk, thing, chance.randrange(9)),
        less(desk, thing, chance.randrange(9)), undo(desk), redo(desk),
        back(desk, chance.randrange(len(looked.house.deeds) + 1))])


class Busy(Looked):
    """A house where anything goes on; of its desks those that are forgetful forget now and then."""

    def __init__(self, chance, desks):
        self.chance = chance
        self.all = range(desks)
        self.forgetful = [desk for desk in self.all if chance.randrange(2)]
        self.calls = [begin(desks)]
        self.told = [[0]]
        Looked.__init__(self, begin(desks))

    def step(self, call):
        self.calls.append(call)
        self.told += self.do(call)

    def write_around(self):
        """One desk writes to all others, which write back; now and then a letter stays on the way."""
        hub = self.chance.choice(self.all)
        others = [desk for desk in self.all if desk != hub]
        for pair in [(hub, desk) for desk in others] + [(desk, hub) for desk in others]:
            self.step(send(*pair))
            if self.chance.randrange(20):
                self.step(comes(len(self.house.letters) - 1))

    def go_on(self):
        what = self.chance.randrange(20)
        if what < 2:
            self.write_around()
        elif what < 4 and len(self.all) > 1:
            self.step(send(*self.chance.sample(self.all, 2)))
        elif what < 7 and self.house.letters:
            self.step(comes(self.chance.randrange(len(self.house.letters))))
        elif what < 9 and self.forgetful:
            self.step(forget(self.chance.choice(self.forgetful)))
        elif len(self.house.deeds) < 95:
            self.step(any_call(self.chance, self, self.chance.choice(self.all)))

    def write_to_all(self):
        """Behind this all desks have had the same."""
        others = [desk for desk in self.all if desk > 0]
        for pair in [(desk, 0) for desk in others] + [(0, desk) for desk in others]:
            self.step(send(*pair))
            self.step(comes(len(self.house.letters) - 1))

    def forgotten(self, desk):
        return sorted(self.house.desks[desk].forgotten)


def some_houses(first, many):
    """Houses of 1 to 4 desks with some deeds done, each with the chance that goes on with it."""
    for seed in range(first, first + many):
        chance = random.Random(seed)
        busy = Busy(chance, chance.randrange(1, 5))
        for k in range(chance.choice([10, 100, 170, 200])):
            busy.go_on()
        yield chance, busy, chance.choice(busy.all)


class Houses(unittest.TestCase):
    def test_there_is_enough_going_on(self):
        some = [busy for chance, busy, desk in some_houses(0, 60)]
        several = [busy for busy in some if len(busy.all) > 1]
        forgot = [busy for busy in several if any(busy.forgotten(desk) for desk in busy.all)]
        partly = [busy for busy in forgot if not all(busy.forgotten(desk) for desk in busy.all)]
        self.assertGreater(len(forgot), 15)
        self.assertGreater(len(partly), 10)
        self.assertGreater(len([busy for busy in forgot if len(busy.all) > 2]), 5)


class Promise1(unittest.TestCase):
    def test_whoever_has_had_the_same_sees_the_same(self):
        for chance, busy, desk in some_houses(5000, 40):
            busy.write_to_all()
            seen = [busy.all_asked(desk) for desk in busy.all]
            # What is asked of a desk begins with that desk; the answers don't.
            for other in busy.all:
                self.assertEqual(seen[other], seen[0])
                self.assertEqual(busy.do(same(0, other)), [[1, 1]])

    def test_as_if_nothing_had_been_forgotten(self):
        forgotten = 0
        for chance, busy, desk in some_houses(6000, 60):
            plain = [call for call in busy.calls if call[0] != 13]
            told = [answer for call, answer in zip(busy.calls, busy.told) if call[0] != 13]
            self.assertEqual(ask(*plain), told)
            never = Looked(*plain)
            for other in busy.all:
                self.assertEqual(never.all_asked(other), busy.all_asked(other))
                # What one keeps and what it has forgotten is together what it has had.
                few, much = busy.do(kept(other))[0], never.do(kept(other))[0]
                self.assertEqual((few[0] + few[3], few[2]), (much[0], much[2]))
                forgotten += few[3]
        self.assertGreater(forgotten, 200)

    def test_whatever_came_in_which_order(self):
        for seed in range(30):
            chance = random.Random(seed)
            busy = Busy(chance, 3)
            # Desks 0 and 1 work and write; none of the letters to desk 2 has come yet.
            for k in range(70):
                call = any_call(chance, busy, chance.randrange(2))
                busy.step(chance.choice([call, call, call, send(0, 2), send(1, 2), send(0, 1), send(1, 0)]))
                others = [k for k, letter in enumerate(busy.house.letters) if letter.target < 2]
                if others and chance.randrange(3) == 0:
                    busy.step(comes(chance.choice(others)))
            busy.step(send(0, 2))
            busy.step(send(1, 2))
            numbers = [k for k, letter in enumerate(busy.house.letters) if letter.target == 2]
            orders = [numbers, numbers[::-1], chance.sample(numbers, len(numbers)), numbers[-2:],
                      chance.choices(numbers, k=9) + numbers]
            found = []
            for order in orders:
                again = Looked(*busy.calls, *[comes(number) for number in order])
                found.append((again.all_asked(2), again.counts(2)))
            self.assertEqual(found, found[:1] * len(orders))


class Promise2(unittest.TestCase):
    def test_all_within_the_root_and_the_bin_are_all_things_that_are_there(self):
        for chance, busy, desk in some_houses(7000, 60):
            for desk in busy.all:
                told = busy.do(tree(desk, 0), tree(desk, 1))
                found = told[0][1::2] + told[1][1::2]
                made = range(2, busy.house.next_thing)
                there = [thing for thing in made if busy.do(line(desk, thing)) != [[-3]]]
                self.assertEqual(sorted(found), there)
                self.assertEqual([told[0][0], told[1][0]], [len(told[0]) // 2, len(told[1]) // 2])
                for thing in there:
                    above = busy.do(line(desk, thing))[0][2]
                    rows = busy.do(*[row(desk, other) for other in [0, 1] + there])
                    holders = [other for other, found in zip([0, 1] + there, rows) if thing in found[1:]]
                    self.assertEqual(holders, [above])
                    self.assertEqual(busy.do(row(desk, above))[0][1:].count(thing), 1)


def without(rows, thing):
    return {under: [other for other in row if other != thing] for under, row in rows.items()}


class Promise3(unittest.TestCase):
    def test_make(self):
        for chance, looked, desk in some_houses(0, 100):
            before = looked.all_rows(desk)
            under = chance.choice(sorted(before))
            i = chance.randrange(len(before[under]) + 1)
            thing = looked.do(make(desk, under, i))[0][1]
            before[under].insert(i, thing)
            before[thing] = []
            self.assertEqual(looked.all_rows(desk), before)
            self.assertEqual(looked.do(row(desk, under)), [[len(before[under])] + before[under]])

    def test_move(self):
        done = 0
        for chance, looked, desk in some_houses(1000, 200):
            before = looked.all_rows(desk)
            thing = chance.choice(sorted(before))
            under = chance.choice(sorted(before))
            if thing > 1 and thing not in looked.line(desk, under):
                before = without(before, thing)
                i = chance.randrange(len(before[under]) + 1)
                self.assertEqual(len(looked.do(move(desk, thing, under, i))[0]), 1)
                before[under].insert(i, thing)
                self.assertEqual(looked.all_rows(desk), before)
                self.assertEqual(looked.do(row(desk, under)), [[len(before[under])] + before[under]])
                done += 1
        self.assertGreater(done, 50)


class Promise4(unittest.TestCase):
    def had(self, busy):
        return [{deed.number: deed for deed in had(busy.house, desk)} for desk in busy.all]

    def check_step(self, busy, before, forgotten):
        after = self.had(busy)
        for desk in busy.all:
            gone = [busy.house.deeds[number] for number in forgotten[desk]]
            self.assertTrue(all(deed.number in after[other] for deed in gone for other in busy.all))
            news = [deed for number, deed in after[desk].items() if number not in before[desk]]
            for deed in news if gone else []:
                self.assertGreater(stamp(deed), stamp(gone[-1]))
                self.assertNotIn(getattr(deed.act, 'deed', None), forgotten[desk])
        return after

    def test_what_was_forgotten_all_have_had_and_whatever_is_heard_later_is_later(self):
        forgotten = 0
        for seed in range(60):
            chance = random.Random(seed)
            busy = Busy(chance, chance.randrange(2, 5))
            before = self.had(busy)
            for k in range(170):
                gone = [busy.forgotten(desk) for desk in busy.all]
                gone = [sorted(numbers, key=lambda number: stamp(busy.house.deeds[number])) for numbers in gone]
                busy.go_on()
                before = self.check_step(busy, before, gone)
            forgotten += sum(len(busy.forgotten(desk)) for desk in busy.all)
        self.assertGreater(forgotten, 200)

    def test_what_is_forgotten_are_the_earliest_of_all_that_it_has_had(self):
        for chance, busy, desk in some_houses(8000, 60):
            for desk in busy.all:
                first = [deed.number for deed in had(busy.house, desk)][:len(busy.forgotten(desk))]
                self.assertEqual(sorted(first), busy.forgotten(desk))


class Promise5(unittest.TestCase):
    def test_the_desk_has_had_all_that_its_sender_had_had_when_it_was_written(self):
        done = 0
        for seed in range(40):
            chance = random.Random(seed)
            busy = Busy(chance, chance.randrange(2, 5))
            written = {}
            for k in range(120):
                start = len(busy.calls)
                busy.go_on()
                if len(busy.calls) == start + 1 and busy.calls[-1][0] == 11 and busy.told[-1][0] >= 0:
                    source, target = busy.calls[-1][1:]
                    written[busy.told[-1][0]] = (target, busy.counts(source))
            for number in chance.sample(sorted(written), len(written)):
                target, counts = written[number]
                before = busy.counts(target)
                news = busy.do(comes(number))[0][0]
                self.assertEqual(busy.counts(target), [max(pair) for pair in zip(before, counts)])
                self.assertEqual(news, sum(busy.counts(target)) - sum(before))
                done += 1
        self.assertGreater(done, 200)

    def test_a_desk_that_had_nothing_sees_what_the_sender_saw(self):
        for chance, busy, desk in some_houses(9000, 40):
            fresh = begin(len(busy.all) + 1)
            calls = [fresh] + busy.calls[1:]
            looked = Looked(*calls)
            number = len(looked.house.letters)
            if number < 200:
                looked.do(send(desk, len(busy.all)))
                seen = looked.all_asked(desk)
                for other in busy.all:
                    looked.do(any_call(chance, looked, other))
                looked.do(comes(number))
                self.assertEqual(looked.all_asked(len(busy.all)), seen)


def is_change(deed):
    return not hasattr(deed.act, 'deed')


def outline_without(looked, desk, number):
    """What the desk's deeds come to if one, and what was done about that one, are left out."""
    kept = [deed for deed in had(looked.house, desk) if deed.number != number]
    return Outline([deed for deed in kept if is_change(deed) or deed.act.deed != number])


def come_to(outline):
    """The changes that hold, and by which put each thing is there."""
    changes = [deed.number for deed in outline.held if is_change(deed)]
    return (changes, {thing: put.number for thing, put in outline.places.items()})


class Promise6(unittest.TestCase):
    def test_undone_and_done_again_all_is_as_it_was(self):
        done = 0
        for chance, looked, desk in some_houses(2000, 200):
            before = looked.all_seen(desk)
            many = chance.randrange(1, 5)
            told = [looked.do(undo(desk))[0][0] for k in range(many)]
            taken = [number for number in told if number >= 0]
            again = [looked.do(redo(desk))[0][0] for k in taken]
            if min(again, default=-1) >= 0:
                self.assertEqual(again, taken[::-1])
                self.assertEqual(looked.all_seen(desk), before)
                done += 1
        self.assertGreater(done, 50)

    def test_so_it_is_at_a_desk_that_hears_of_it(self):
        done = 0
        for chance, busy, desk in some_houses(2500, 80):
            busy.write_to_all()
            other = chance.choice(busy.all)
            before = busy.all_asked(other)
            if busy.do(undo(desk))[0][0] >= 0:
                if other != desk:
                    busy.hear(desk, other)
                if busy.do(redo(desk))[0][0] >= 0:
                    if other != desk:
                        busy.hear(desk, other)
                    self.assertEqual(busy.all_asked(other), before)
                    done += 1
        self.assertGreater(done, 20)

    def test_what_is_taken_back_is_as_if_it_alone_had_not_been_done(self):
        done = 0
        for chance, looked, desk in some_houses(3000, 200):
            own = [deed.number for deed in looked.house.deeds if deed.desk == desk and is_change(deed)]
            deed = chance.choice(own[-10:] + [0])
            expected = come_to(outline_without(looked, desk, deed))
            if looked.do(back(desk, deed))[0][0] >= 0:
                self.assertEqual(come_to(Outline(had(looked.house, desk))), expected)
                done += 1
        self.assertGreater(done, 30)

    def test_others_keep_their_order_when_one_is_taken_back(self):
        for chance, looked, desk in some_houses(4000, 60):
            before = looked.all_rows(desk)
            under = chance.choice(sorted(before))
            looked.do(make(desk, under, chance.randrange(len(before[under]) + 1)), undo(desk))
            self.assertEqual(looked.all_rows(desk), before)

    def test_values_and_amounts_go_back_too(self):
        looked = Looked(make(0, 0, 0), tell(0, 2, 0, 5), add(0, 2, 7))
        before = looked.all_seen(0)
        for call in (tell(0, 2, 0, 6), clear(0, 2, 0), add(0, 2, 1), less(0, 2, 1), move(0, 2, 1, 0)):
            looked.do(call)
            after = looked.all_seen(0)
            self.assertNotEqual(after, before)
            looked.do(undo(0))
            self.assertEqual(looked.all_seen(0), before)
            looked.do(redo(0))
            self.assertEqual(looked.all_seen(0), after)
            looked.do(undo(0))
