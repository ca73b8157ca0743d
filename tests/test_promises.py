"""Promises 3 and 6, over many houses with several desks that hear of one another now and then."""

import random
import unittest

from handsoutline.outline import Outline
from handsoutline.state import had
from tests.helper import Looked, add, back, begin, clear, less, make, move, redo, tell, undo


def any_thing(chance, looked):
    return chance.randrange(looked.house.next_thing)


def any_call(chance, looked, desk):
    thing = any_thing(chance, looked)
    under = any_thing(chance, looked)
    return chance.choice([
        make(desk, under, chance.randrange(4)), make(desk, under, 0), move(desk, thing, under, chance.randrange(3)),
        move(desk, thing, under, 0), tell(desk, thing, chance.randrange(2), chance.randrange(9)),
        clear(desk, thing, chance.randrange(2)), add(desk, thing, chance.randrange(9)),
        less(desk, thing, chance.randrange(9)), undo(desk), redo(desk),
        back(desk, chance.randrange(len(looked.house.deeds) + 1))])


def some_houses(first, many):
    """Houses of 1 to 4 desks with some deeds done, each with the chance that goes on with it."""
    for seed in range(first, first + many):
        chance = random.Random(seed)
        desks = chance.randrange(1, 5)
        looked = Looked(begin(desks))
        for step in range(chance.randrange(5, 60)):
            do_any(chance, looked, desks)
        yield chance, looked, chance.randrange(desks)


def do_any(chance, looked, desks):
    if desks > 1 and chance.randrange(4) == 0:
        looked.hear(*chance.sample(range(desks), 2))
    else:
        looked.do(any_call(chance, looked, chance.randrange(desks)))


def without(rows, thing):
    return {under: [other for other in row if other != thing] for under, row in rows.items()}


class Promise3(unittest.TestCase):
    def test_make(self):
        for chance, looked, desk in some_houses(0, 150):
            before = looked.all_rows(desk)
            under = chance.choice(sorted(before))
            i = chance.randrange(len(before[under]) + 1)
            thing = looked.do(make(desk, under, i))[0][1]
            before[under].insert(i, thing)
            before[thing] = []
            self.assertEqual(looked.all_rows(desk), before)

    def test_move(self):
        done = 0
        for chance, looked, desk in some_houses(1000, 300):
            before = looked.all_rows(desk)
            thing = chance.choice(sorted(before))
            under = chance.choice(sorted(before))
            if thing > 1 and thing not in looked.line(desk, under):
                before = without(before, thing)
                i = chance.randrange(len(before[under]) + 1)
                self.assertEqual(len(looked.do(move(desk, thing, under, i))[0]), 1)
                before[under].insert(i, thing)
                self.assertEqual(looked.all_rows(desk), before)
                done += 1
        self.assertGreater(done, 50)


def is_change(deed):
    return not hasattr(deed.act, 'deed')


def outline_without(looked, desk, number):
    """What the desk's deeds come to if one, and what was done about that one, are left out."""
    kept = [deed for deed in had(looked.house, desk) if deed.number != number]
    return Outline([deed for deed in kept if is_change(deed) or deed.act.deed != number])


def come_to(outline):
    """The changes that hold, and by which put each thing is there."""
    changes = [deed.number for deed in outline.held if is_change(deed)]
    return (changes, {thing: put.number for thing, put in outline.places.items()})


class Promise6(unittest.TestCase):
    def test_undone_and_done_again_all_is_as_it_was(self):
        done = 0
        for chance, looked, desk in some_houses(2000, 300):
            before = looked.all_seen(desk)
            many = chance.randrange(1, 5)
            told = [looked.do(undo(desk))[0][0] for k in range(many)]
            taken = [number for number in told if number >= 0]
            again = [looked.do(redo(desk))[0][0] for k in taken]
            if min(again, default=-1) >= 0:
                self.assertEqual(again, taken[::-1])
                self.assertEqual(looked.all_seen(desk), before)
                done += 1
        self.assertGreater(done, 50)

    def test_what_is_taken_back_is_as_if_it_alone_had_not_been_done(self):
        done = 0
        for chance, looked, desk in some_houses(3000, 300):
            deed = chance.randrange(len(looked.house.deeds) + 1)
            expected = come_to(outline_without(looked, desk, deed))
            if looked.do(back(desk, deed))[0][0] >= 0:
                self.assertEqual(come_to(Outline(had(looked.house, desk))), expected)
                done += 1
        self.assertGreater(done, 50)

    def test_others_keep_their_order_when_one_is_taken_back(self):
        for chance, looked, desk in some_houses(4000, 100):
            before = looked.all_rows(desk)
            under = chance.choice(sorted(before))
            looked.do(make(desk, under, chance.randrange(len(before[under]) + 1)), undo(desk))
            self.assertEqual(looked.all_rows(desk), before)

    def test_values_and_amounts_go_back_too(self):
        looked = Looked(make(0, 0, 0), tell(0, 2, 0, 5), add(0, 2, 7))
        before = looked.all_seen(0)
        for call in (tell(0, 2, 0, 6), clear(0, 2, 0), add(0, 2, 1), less(0, 2, 1), move(0, 2, 1, 0)):
            looked.do(call)
            after = looked.all_seen(0)
            self.assertNotEqual(after, before)
            looked.do(undo(0))
            self.assertEqual(looked.all_seen(0), before)
            looked.do(redo(0))
            self.assertEqual(looked.all_seen(0), after)
            looked.do(undo(0))
