import unittest

from handsoutline.house import answers
from tests.helper import (GREATEST, Looked, add, ask, back, begin, clear, flat, last, less, make, move, redo, send,
                          tell, undo)

ORDINARY = [begin(3), make(0, 0, 0), make(0, 0, 1), make(1, 0, 0), move(0, 3, 2, 0), tell(0, 3, 1, 44), clear(0, 3, 1),
            add(0, 2, 6), less(0, 2, 9), undo(0), back(0, 1), make(0, 3, 0), redo(0), redo(0), send(0, 2), make(2, 9, 0),
            undo(2), begin(9), send(1, 1)]


class Interface(unittest.TestCase):
    def test_each_answer_has_its_length_before_it(self):
        told = answers(flat(ORDINARY))
        self.assertEqual(told, [1, 0, 2, 0, 2, 2, 1, 3, 2, 2, 4, 1, 3, 1, 4, 1, 5, 1, 6, 1, 7, 1, 7, 1, 9, 2, 10, 5,
                                1, -3, 1, -3, 2, 0, 10, 1, -3, 1, -3, 1, -1, 1, -2])

    def test_what_is_handed_in_is_the_same_afterwards(self):
        calls = flat(ORDINARY)
        kept = list(calls)
        answers(calls)
        self.assertEqual(calls, kept)

    def test_a_second_time_answers_the_same(self):
        calls = flat(ORDINARY)
        first = answers(calls)
        answers(flat([begin(6), make(5, 0, 0), send(5, 4)]))
        self.assertEqual(answers(calls), first)

    def test_lists_of_whole_numbers(self):
        told = answers(flat(ORDINARY))
        self.assertIs(type(told), list)
        self.assertEqual({type(number) for number in told}, {int})

    def test_the_greatest_number_for_each_argument(self):
        start = [begin(2), make(0, 0, 0), add(0, 2, 1)]
        fitting = [(begin(2), [-1]), (make(0, 0, 0), [-2, -3, -1]), (move(0, 2, 1, 0), [-2, -3, -3, -1]),
                   (tell(0, 2, 0, 0), [-2, -3, -1, -1]), (clear(0, 2, 0), [-2, -3, -1]), (add(0, 2, 0), [-2, -3, -1]),
                   (less(0, 2, 0), [-2, -3, -1]), (back(0, 1), [-2, -3]), (undo(0), [-2]), (redo(0), [-2]),
                   (send(0, 1), [-2, -2])]
        for call, refusals in fitting:
            for k, refusal in enumerate(refusals):
                changed = call[:k + 1] + [GREATEST] + call[k + 2:]
                self.assertEqual(last(*start, changed), [refusal], changed)

    def test_the_most_calls(self):
        told = ask(begin(2), *[make(0, 0, 0), make(1, 1, 0)] * 50, *[send(0, 1)] * 149)
        self.assertEqual((len(told), told[100], told[249]), (250, [99, 101], [148, 50]))


class Refusals(unittest.TestCase):
    def refused(self, full):
        wrong = [begin(0), begin(7), make(9, 0, 0), make(0, 99, 0), make(0, 0, 99), move(9, 2, 0, 0),
                 move(0, 0, 1, 0), move(0, 99, 0, 0), move(0, 2, 99, 0), move(0, 2, 3, 0), move(0, 3, 0, 99),
                 tell(9, 0, 0, 0), tell(0, 99, 0, 0), tell(0, 0, 3, 0), tell(0, 0, 0, GREATEST), clear(9, 0, 0),
                 clear(0, 99, 0), clear(0, 0, 3), add(9, 0, 0), add(0, 99, 0), add(0, 0, GREATEST), less(9, 0, 0),
                 less(0, 99, 0), less(0, 0, GREATEST), back(9, 0), back(0, 99), back(1, 0), back(0, 4), undo(9),
                 undo(1), redo(9), redo(1), send(0, 9), send(9, 0), send(1, 1)]
        if full:
            wrong += [make(0, 0, 0), move(0, 3, 0, 0), tell(0, 0, 0, 0), clear(0, 0, 0), add(0, 0, 0), less(0, 0, 0),
                      back(0, 3), undo(0), send(0, 1)]
        return wrong

    def test_behind_each_refusal_all_is_as_it_was(self):
        start = [begin(2), make(0, 0, 0), make(0, 2, 0), make(0, 0, 1), tell(0, 3, 1, 8), add(0, 2, 5), undo(0),
                 send(0, 1)]
        full = [begin(2), make(0, 0, 0), make(0, 2, 0), make(0, 0, 1)] + [add(0, 2, 5)] * 96 + [undo(0)]
        full += [add(0, 0, 1)] + [send(0, 1)] * 200
        for calls, is_full in ((start, False), (full, True)):
            looked = Looked(*calls)
            if is_full:
                self.assertEqual((len(looked.house.deeds), len(looked.house.letters)), (100, 200))
            before = looked.all_kept()
            for call in self.refused(is_full):
                told = looked.do(call)
                self.assertEqual((len(told), len(told[0])), (1, 1), call)
                self.assertLess(told[0][0], 0, call)
                self.assertEqual(looked.all_kept(), before, call)

    def test_behind_too_late_all_is_as_it_was(self):
        toggled = [add(0, 0, 1)] + [undo(0), redo(0)] * 10
        taken = [add(0, 0, 1), add(0, 0, 2), back(0, 0)] + [undo(0), redo(0)] * 9
        for calls, call in ((toggled, undo(0)), (toggled, back(0, 0)), (taken, redo(0)), (taken, back(0, 0))):
            looked = Looked(*calls)
            before = looked.all_kept()
            self.assertEqual(looked.do(call), [[-4]], call)
            self.assertEqual(looked.all_kept(), before, call)
