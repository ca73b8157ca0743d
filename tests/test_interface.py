import unittest

from handsoutline.house import answers
from tests.helper import (GREATEST, Looked, add, amounts, ask, back, begin, clear, comes, find, flat, forget, kept,
                          last, less, letters, line, make, move, redo, row, same, send, tell, tree, undo, values)

ORDINARY = [begin(3), make(0, 0, 0), make(0, 0, 1), make(1, 0, 0), move(0, 3, 2, 0), tell(0, 3, 1, 44), clear(0, 3, 1),
            add(0, 2, 6), less(0, 2, 9), undo(0), back(0, 1), make(0, 3, 0), redo(0), redo(0), send(0, 2), make(2, 9, 0),
            undo(2), begin(9), send(1, 1)]

# Each call that asks or brings a letter, answered and refused.
ASKING = [begin(2), make(0, 0, 0), make(0, 2, 0), tell(0, 3, 1, 44), less(0, 3, 9), *[add(0, 2, 1)] * 18, send(0, 1),
          comes(0), comes(1), forget(1), forget(2), tree(1, 0), tree(1, 4), row(1, 2), row(2, 2), line(1, 3), line(1, 9),
          values(1, 3, 1), values(1, 3, 3), amounts(1, 2), amounts(1, 4), find(1, 1, 44), find(1, 3, 44), kept(1),
          kept(9), same(0, 1), same(1, 2)]


class Interface(unittest.TestCase):
    def test_each_answer_has_its_length_before_it(self):
        told = answers(flat(ORDINARY))
        self.assertEqual(told, [1, 0, 2, 0, 2, 2, 1, 3, 2, 2, 4, 1, 3, 1, 4, 1, 5, 1, 6, 1, 7, 1, 7, 1, 9, 2, 10, 5,
                                1, -3, 1, -3, 2, 0, 10, 1, -3, 1, -3, 1, -1, 1, -2])

    def test_each_call_answers_just_what_is_told(self):
        told = answers(flat(ASKING))[48:]
        self.assertEqual(told, [2, 0, 22, 1, 22, 1, -2, 2, 2, 2, 1, -2, 5, 2, 2, 1, 3, 2, 1, -3, 2, 1, 3, 1, -2, 4, 3, 3,
                                2, 0, 1, -3, 3, 1, 2, 44, 1, -1, 3, 1, 18, 9, 1, -3, 2, 1, 3, 1, -1, 4, 20, 0, 22, 2, 1,
                                -2, 2, 1, 1, 1, -2])

    def test_what_is_handed_in_is_the_same_afterwards(self):
        for calls in (flat(ORDINARY), flat(ASKING), flat(ORDINARY + ASKING)):
            handed = list(calls)
            answers(handed)
            self.assertEqual(handed, calls)

    def test_a_second_time_answers_the_same(self):
        for calls in (flat(ORDINARY), flat(ASKING), flat(ASKING[1:])):
            first = answers(calls)
            answers(flat([begin(6), make(5, 0, 0), send(5, 4), comes(0), *[add(0, 0, 1)] * 30, forget(0)]))
            self.assertEqual(answers(calls), first)

    def test_what_is_answered_is_a_list_of_its_own(self):
        calls = flat(ASKING)
        first = answers(calls)
        first.clear()
        self.assertEqual(answers(calls)[:2], [1, 0])

    def test_lists_of_whole_numbers(self):
        told = answers(flat(ORDINARY + ASKING))
        self.assertIs(type(told), list)
        self.assertEqual({type(number) for number in told}, {int})

    def test_the_greatest_number_for_each_argument(self):
        start = [begin(2), make(0, 0, 0), add(0, 2, 1)]
        fitting = [(begin(2), [-1]), (make(0, 0, 0), [-2, -3, -1]), (move(0, 2, 1, 0), [-2, -3, -3, -1]),
                   (tell(0, 2, 0, 0), [-2, -3, -1, -1]), (clear(0, 2, 0), [-2, -3, -1]), (add(0, 2, 0), [-2, -3, -1]),
                   (less(0, 2, 0), [-2, -3, -1]), (back(0, 1), [-2, -3]), (undo(0), [-2]), (redo(0), [-2]),
                   (send(0, 1), [-2, -2]), (comes(0), [-2]), (forget(0), [-2]), (tree(0, 2), [-2, -3]),
                   (row(0, 2), [-2, -3]), (line(0, 2), [-2, -3]), (values(0, 2, 0), [-2, -3, -1]),
                   (amounts(0, 2), [-2, -3]), (find(0, 0, 5), [-2, -1, 0]), (kept(0), [-2]), (same(0, 1), [-2, -2])]
        for call, refusals in fitting:
            for k, refusal in enumerate(refusals):
                changed = call[:k + 1] + [GREATEST] + call[k + 2:]
                self.assertEqual(last(*start, changed), [refusal], changed)

    def test_the_most_calls(self):
        told = ask(begin(2), *[make(0, 0, 0), make(1, 1, 0)] * 50, *[send(0, 1)] * 149)
        self.assertEqual((len(told), told[100], told[249]), (250, [99, 101], [148, 50]))


class Refusals(unittest.TestCase):
    def refused(self, full):
        wrong = [begin(0), begin(7), make(9, 0, 0), make(0, 99, 0), make(0, 0, 99), move(9, 2, 0, 0),
                 move(0, 0, 1, 0), move(0, 99, 0, 0), move(0, 2, 99, 0), move(0, 2, 3, 0), move(0, 3, 0, 99),
                 tell(9, 0, 0, 0), tell(0, 99, 0, 0), tell(0, 0, 3, 0), tell(0, 0, 0, GREATEST), clear(9, 0, 0),
                 clear(0, 99, 0), clear(0, 0, 3), add(9, 0, 0), add(0, 99, 0), add(0, 0, GREATEST), less(9, 0, 0),
                 less(0, 99, 0), less(0, 0, GREATEST), back(9, 0), back(0, 99), back(1, 0), back(0, 4), undo(9),
                 undo(1), redo(9), redo(1), send(0, 9), send(9, 0), send(1, 1), comes(200), comes(GREATEST), forget(2),
                 forget(GREATEST), tree(2, 0), tree(0, 99), row(2, 0), row(0, 99), line(2, 0), line(0, 99),
                 values(2, 0, 0), values(0, 99, 0), values(0, 0, 3), amounts(2, 0), amounts(0, 99), find(2, 0, 0),
                 find(0, 3, 0), kept(2), same(0, 2), same(2, 0)]
        if full:
            wrong += [make(0, 0, 0), move(0, 3, 0, 0), tell(0, 0, 0, 0), clear(0, 0, 0), add(0, 0, 0), less(0, 0, 0),
                      back(0, 3), undo(0), send(0, 1)]
        return wrong

    def test_behind_each_refusal_all_is_as_it_was(self):
        start = [begin(2), make(0, 0, 0), make(0, 2, 0), make(0, 0, 1), tell(0, 3, 1, 8), add(0, 2, 5), undo(0),
                 send(0, 1)]
        full = [begin(2), make(0, 0, 0), make(0, 2, 0), make(0, 0, 1)] + [add(0, 2, 5)] * 96 + [undo(0)]
        heard = full[:60] + [undo(0), *letters(0, (0, 1), (1, 0)), forget(0), add(0, 0, 1), send(0, 1)]
        full += [add(0, 0, 1)] + [send(0, 1)] * 200
        for calls, is_full in ((start, False), (heard, False), (full, True)):
            looked = Looked(*calls)
            self.assertEqual(calls == heard, len(looked.house.desks[0].forgotten) > 0)
            if is_full:
                self.assertEqual((len(looked.house.deeds), len(looked.house.letters)), (100, 200))
            before = looked.all_kept()
            for call in self.refused(is_full):
                told = looked.do(call)
                self.assertEqual((len(told), len(told[0])), (1, 1), call)
                self.assertLess(told[0][0], 0, call)
                self.assertEqual(looked.all_kept(), before, call)

    def test_behind_too_late_all_is_as_it_was(self):
        toggled = [add(0, 0, 1)] + [undo(0), redo(0)] * 10
        taken = [add(0, 0, 1), add(0, 0, 2), back(0, 0)] + [undo(0), redo(0)] * 9
        for calls, call in ((toggled, undo(0)), (toggled, back(0, 0)), (taken, redo(0)), (taken, back(0, 0))):
            looked = Looked(*calls)
            before = looked.all_kept()
            self.assertEqual(looked.do(call), [[-4]], call)
            self.assertEqual(looked.all_kept(), before, call)

    def test_of_several_the_one_told_first(self):
        start = [make(0, 0, 0)]
        several = [(tree(1, 9), -2), (row(1, 9), -2), (line(1, 9), -2), (values(1, 9, 3), -2), (values(1, 0, 3), -2),
                   (values(0, 9, 3), -3), (amounts(1, 9), -2), (find(1, 3, GREATEST), -2), (find(0, 3, GREATEST), -1)]
        for call, refusal in several:
            self.assertEqual(last(*start, call), [refusal], call)


class Questions(unittest.TestCase):
    def test_what_only_asks_changes_nothing(self):
        looked = Looked(*ASKING)
        before = looked.all_kept()
        for call in (tree(0, 0), row(0, 0), line(0, 3), values(0, 3, 1), amounts(0, 0), find(0, 1, 44), kept(0), kept(1),
                     same(0, 1), same(1, 1)):
            first = looked.do(call)
            self.assertEqual(looked.do(call), first)
            self.assertEqual(looked.all_kept(), before, call)

    def test_forgetting_changes_only_what_is_kept(self):
        looked = Looked(begin(2), make(0, 0, 0), *[add(0, 2, 1)] * 30, *letters(0, (0, 1), (1, 0)))
        before = [looked.all_asked(0), looked.all_asked(1), looked.counts(0), looked.do(kept(1))]
        self.assertEqual(looked.do(kept(0), forget(0), kept(0)), [[31, 11, 31, 0], [11, 11], [20, 0, 31, 11]])
        after = [looked.all_asked(0), looked.all_asked(1), looked.counts(0), looked.do(kept(1))]
        self.assertEqual(after, before)
