"""tell, clear, add, less."""

import unittest

from tests.helper import GREATEST, Looked, add, ask, back, begin, clear, last, less, make, tell, undo

MOST = 10 ** 9


class ToldAndAdded(unittest.TestCase):
    def every(self, desk, thing):
        return [tell(desk, thing, 0, 7), clear(desk, thing, 0), add(desk, thing, 7), less(desk, thing, 7)]

    def test_each_answers_its_deed(self):
        self.assertEqual(ask(make(0, 0, 0), *self.every(0, 2))[1:], [[1], [2], [3], [4]])

    def test_the_root_and_the_bin_have_fields_and_amounts(self):
        self.assertEqual(ask(*self.every(0, 0), *self.every(0, 1)), [[deed] for deed in range(8)])

    def test_fields_2_and_3(self):
        for field in (0, 1, 2):
            self.assertEqual(ask(tell(0, 0, field, 1), clear(0, 0, field)), [[0], [1]])
        for field in (3, 4, GREATEST):
            self.assertEqual(ask(tell(0, 0, field, 1), clear(0, 0, field)), [[-1], [-1]])

    def test_10_to_the_9_and_one_above(self):
        for number in (0, 1, MOST - 1, MOST):
            self.assertEqual(ask(tell(0, 0, 0, number), add(0, 0, number), less(0, 0, number)), [[0], [1], [2]])
        for number in (MOST + 1, GREATEST):
            self.assertEqual(ask(tell(0, 0, 0, number), add(0, 0, number), less(0, 0, number)), [[-1]] * 3)

    def test_no_such_desk(self):
        for desk in (1, 6, GREATEST):
            self.assertEqual(ask(*self.every(desk, 0)), [[-2]] * 4)

    def test_not_there(self):
        for thing in (2, GREATEST):
            self.assertEqual(ask(*self.every(0, thing)), [[-3]] * 4)
        self.assertEqual(ask(make(0, 0, 0), undo(0), *self.every(0, 2))[2:], [[-3]] * 4)
        self.assertEqual(ask(begin(2), make(0, 0, 0), *self.every(1, 2))[2:], [[-3]] * 4)

    def test_what_is_in_the_bin_is_there(self):
        self.assertEqual(ask(make(0, 1, 0), make(0, 2, 0), *self.every(0, 3))[2:], [[2], [3], [4], [5]])

    def test_the_100th_deed_and_the_one_behind_it(self):
        for call in self.every(0, 0):
            self.assertEqual(ask(*[call] * 101)[98:], [[98], [99], [-5]])

    def test_of_several_the_one_told_first(self):
        full = [add(0, 0, 1)] * 100
        wrong = [lambda desk, thing: tell(desk, thing, 3, 0), lambda desk, thing: tell(desk, thing, 0, MOST + 1),
                 lambda desk, thing: clear(desk, thing, 3), lambda desk, thing: add(desk, thing, MOST + 1),
                 lambda desk, thing: less(desk, thing, MOST + 1)]
        for call in wrong:
            self.assertEqual(last(*full, call(1, 2)), [-2])
            self.assertEqual(last(*full, call(0, 2)), [-3])
            self.assertEqual(last(*full, call(0, 0)), [-1])


class Values(unittest.TestCase):
    def test_the_last_telling_of_one_desk(self):
        looked = Looked(tell(0, 0, 1, 5), tell(0, 0, 1, 6), tell(0, 0, 2, 8), tell(0, 1, 1, 9))
        self.assertEqual(looked.values(0, 0, 1), [(1, 6)])
        self.assertEqual(looked.values(0, 0, 2), [(2, 8)])
        self.assertEqual(looked.values(0, 1, 1), [(3, 9)])
        self.assertEqual(looked.values(0, 0, 0), [])

    def test_cleared(self):
        looked = Looked(tell(0, 0, 0, 5), tell(0, 0, 1, 6), clear(0, 0, 0), add(0, 0, 3))
        self.assertEqual((looked.values(0, 0, 0), looked.values(0, 0, 1)), ([], [(1, 6)]))
        looked.do(tell(0, 0, 0, 7))
        self.assertEqual(looked.values(0, 0, 0), [(4, 7)])

    def test_a_telling_or_clearing_taken_back_hides_nothing(self):
        looked = Looked(tell(0, 0, 0, 5), tell(0, 0, 0, 6), clear(0, 0, 0), back(0, 1), back(0, 2))
        self.assertEqual(looked.values(0, 0, 0), [(0, 5)])

    def test_a_telling_taken_back_is_no_value(self):
        looked = Looked(tell(0, 0, 0, 5), undo(0))
        self.assertEqual(looked.values(0, 0, 0), [])

    def test_those_that_did_not_see_one_another_are_both_values(self):
        looked = Looked(begin(2), tell(1, 0, 0, 5), tell(0, 0, 0, 6), tell(0, 0, 0, 4))
        looked.hear(0, 1)
        looked.hear(1, 0)
        self.assertEqual(looked.values(0, 0, 0), [(0, 5), (2, 4)])
        self.assertEqual(looked.values(1, 0, 0), [(0, 5), (2, 4)])
        looked.do(tell(1, 0, 0, 9))
        self.assertEqual(looked.values(1, 0, 0), [(3, 9)])

    def test_a_clearing_hides_what_it_saw_alone(self):
        looked = Looked(begin(2), tell(0, 0, 0, 5))
        looked.hear(0, 1)
        looked.do(clear(1, 0, 0), tell(0, 0, 0, 6))
        looked.hear(1, 0)
        self.assertEqual(looked.values(0, 0, 0), [(2, 6)])


class Amounts(unittest.TestCase):
    def test_the_sum_of_what_holds(self):
        looked = Looked(add(0, 0, 5), less(0, 0, 8), add(0, 1, 4))
        self.assertEqual((looked.amount(0, 0), looked.amount(0, 1)), (-3, 4))
        looked.do(back(0, 1))
        self.assertEqual(looked.amount(0, 0), 5)
        looked.do(undo(0), undo(0))
        self.assertEqual((looked.amount(0, 0), looked.amount(0, 1)), (0, 0))

    def test_of_all_desks_that_were_heard(self):
        looked = Looked(begin(2), add(0, 0, MOST), less(1, 0, 1))
        self.assertEqual((looked.amount(0, 0), looked.amount(1, 0)), (MOST, -1))
        looked.hear(0, 1)
        self.assertEqual((looked.amount(0, 0), looked.amount(1, 0)), (MOST, MOST - 1))
