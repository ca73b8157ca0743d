import unittest

from tests.helper import GREATEST, Looked, add, ask, back, begin, last, make, move, undo


class Make(unittest.TestCase):
    def test_deeds_and_things_get_the_next_numbers_anywhere(self):
        told = ask(begin(2), make(0, 0, 0), make(1, 0, 0), add(0, 2, 5), make(0, 2, 0), make(1, 1, 0))
        self.assertEqual(told, [[0], [0, 2], [1, 3], [2], [3, 4], [4, 5]])

    def test_under_the_root_the_bin_and_a_thing(self):
        self.assertEqual(ask(make(0, 0, 0), make(0, 1, 0), make(0, 2, 0), make(0, 4, 0)),
                         [[0, 2], [1, 3], [2, 4], [3, 5]])

    def test_each_desk_sees_its_own_deeds_alone(self):
        told = ask(begin(2), make(0, 0, 0), make(1, 2, 0), make(1, 0, 1), make(0, 0, 1))
        self.assertEqual(told[2:], [[-3], [-1], [1, 3]])

    def test_i_at_0_at_the_row_s_length_and_one_above(self):
        for length in range(4):
            start = [make(0, 0, 0)] * length
            self.assertEqual(last(*start, make(0, 0, 0)), [length, length + 2])
            self.assertEqual(last(*start, make(0, 0, length)), [length, length + 2])
            self.assertEqual(last(*start, make(0, 0, length + 1)), [-1])
            self.assertEqual(last(*start, make(0, 0, GREATEST)), [-1])

    def test_the_row_s_length_is_what_is_there(self):
        start = [make(0, 0, 0), make(0, 0, 1), make(0, 0, 2), move(0, 3, 2, 0)]
        self.assertEqual(last(*start, make(0, 0, 3)), [-1])
        self.assertEqual(last(*start, make(0, 0, 2)), [4, 5])
        self.assertEqual(last(*start, make(0, 2, 2)), [-1])
        self.assertEqual(last(*start, make(0, 2, 1)), [4, 5])
        self.assertEqual(last(*start, undo(0), make(0, 0, 3)), [5, 5])

    def test_every_place_of_a_row(self):
        for length in range(5):
            for i in range(length + 1):
                looked = Looked(*[make(0, 0, k) for k in range(length)])
                before = looked.row(0, 0)
                looked.do(make(0, 0, i))
                self.assertEqual(looked.row(0, 0), before[:i] + [length + 2] + before[i:])

    def test_no_such_desk(self):
        self.assertEqual(last(make(1, 0, 0)), [-2])
        self.assertEqual(last(begin(6), make(6, 0, 0)), [-2])
        self.assertEqual(last(begin(6), make(GREATEST, 0, 0)), [-2])

    def test_not_there(self):
        self.assertEqual(last(make(0, 2, 0)), [-3])
        self.assertEqual(last(make(0, GREATEST, 0)), [-3])
        self.assertEqual(last(make(0, 0, 0), undo(0), make(0, 2, 0)), [-3])
        self.assertEqual(last(make(0, 0, 0), make(0, 2, 0), back(0, 0), make(0, 3, 0)), [-3])

    def test_the_100th_deed_and_the_one_behind_it(self):
        told = ask(begin(2), *[add(0, 0, 1), make(1, 0, 0)] * 50, make(0, 0, 0), make(1, 0, 50))
        self.assertEqual(told[100:], [[99, 51], [-5], [-5]])

    def test_of_several_the_one_told_first(self):
        full = [add(0, 0, 1)] * 100
        self.assertEqual(last(*full, make(1, 2, 1)), [-2])
        self.assertEqual(last(*full, make(0, 2, 1)), [-3])
        self.assertEqual(last(*full, make(0, 0, 1)), [-1])
        self.assertEqual(last(*full, make(0, 0, 0)), [-5])

    def test_a_refusal_takes_no_number_and_no_count(self):
        refused = [make(9, 0, 0), make(0, 9, 0), make(0, 0, 9)]
        self.assertEqual(last(*refused, make(0, 0, 0)), [0, 2])
        self.assertEqual(last(make(0, 0, 0), *refused * 10, undo(0)), [0])
