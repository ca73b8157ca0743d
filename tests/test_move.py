import unittest

from tests.helper import GREATEST, Looked, add, ask, back, begin, last, make, move, undo

ROW_OF_3 = [make(0, 0, 0), make(0, 0, 1), make(0, 0, 2)]


class Move(unittest.TestCase):
    def test_answers_the_deed_alone(self):
        self.assertEqual(ask(*ROW_OF_3, move(0, 2, 3, 0), move(0, 3, 1, 0))[3:], [[3], [4]])

    def test_a_moved_thing_leaves_its_row_and_is_in_the_other(self):
        start = ROW_OF_3 + [move(0, 4, 2, 0)]
        self.assertEqual(last(*start, make(0, 0, 3)), [-1])
        self.assertEqual(last(*start, make(0, 0, 2)), [4, 5])
        self.assertEqual(last(*start, make(0, 2, 1)), [4, 5])

    def test_all_within_it_goes_along(self):
        start = [make(0, 0, 0), make(0, 2, 0), make(0, 3, 0), make(0, 0, 1), move(0, 2, 5, 0)]
        self.assertEqual(ask(*start, move(0, 5, 4, 0), make(0, 4, 0))[5:], [[-6], [5, 6]])
        self.assertEqual(Looked(*start).line(0, 4), [4, 3, 2, 5, 0])

    def test_to_the_bin_and_back(self):
        looked = Looked(*ROW_OF_3, move(0, 3, 1, 0))
        self.assertEqual((looked.row(0, 0), looked.row(0, 1)), ([2, 4], [3]))
        looked.do(move(0, 3, 0, 0))
        self.assertEqual((looked.row(0, 0), looked.row(0, 1)), ([3, 2, 4], []))

    def test_i_is_counted_in_the_row_without_it(self):
        self.assertEqual(last(*ROW_OF_3, move(0, 2, 0, 2)), [3])
        self.assertEqual(last(*ROW_OF_3, move(0, 2, 0, 3)), [-1])
        self.assertEqual(last(*ROW_OF_3, make(0, 1, 0), move(0, 5, 0, 3)), [4])
        self.assertEqual(last(*ROW_OF_3, make(0, 1, 0), move(0, 5, 0, 4)), [-1])
        self.assertEqual(last(*ROW_OF_3, move(0, 2, 1, 0)), [3])
        self.assertEqual(last(*ROW_OF_3, move(0, 2, 1, 1)), [-1])
        self.assertEqual(last(*ROW_OF_3, move(0, 2, 0, GREATEST)), [-1])

    def test_every_place_in_its_own_row(self):
        for thing in range(2, 7):
            for i in range(5):
                looked = Looked(*[make(0, 0, k) for k in range(5)])
                others = [other for other in looked.row(0, 0) if other != thing]
                looked.do(move(0, thing, 0, i))
                self.assertEqual(looked.row(0, 0), others[:i] + [thing] + others[i:])

    def test_every_place_in_another_row(self):
        for i in range(4):
            looked = Looked(*ROW_OF_3, make(0, 2, 0), make(0, 2, 1), make(0, 2, 2), move(0, 3, 2, i))
            self.assertEqual(looked.row(0, 0), [2, 4])
            self.assertEqual(looked.row(0, 2), [5, 6, 7][:i] + [3] + [5, 6, 7][i:])

    def test_no_such_desk(self):
        self.assertEqual(last(make(0, 0, 0), move(1, 2, 0, 0)), [-2])
        self.assertEqual(last(make(0, 0, 0), move(GREATEST, 2, 0, 0)), [-2])

    def test_not_there(self):
        for thing in (0, 1, 3, GREATEST):
            self.assertEqual(last(make(0, 0, 0), move(0, thing, 0, 0)), [-3])
            self.assertEqual(last(make(0, 0, 0), move(0, thing, thing, 0)), [-3])
        for under in (3, GREATEST):
            self.assertEqual(last(make(0, 0, 0), move(0, 2, under, 0)), [-3])
        self.assertEqual(last(begin(2), make(0, 0, 0), move(1, 2, 0, 0)), [-3])

    def test_the_root_and_the_bin_cannot_be_moved_into_one_another(self):
        self.assertEqual(ask(move(0, 0, 1, 0), move(0, 1, 0, 0)), [[-3], [-3]])

    def test_within_itself(self):
        start = [make(0, 0, 0), make(0, 2, 0), make(0, 3, 0), make(0, 0, 1)]
        self.assertEqual(last(*start, move(0, 2, 2, 0)), [-6])
        self.assertEqual(last(*start, move(0, 2, 3, 0)), [-6])
        self.assertEqual(last(*start, move(0, 2, 4, 0)), [-6])
        self.assertEqual(last(*start, move(0, 3, 4, 0)), [-6])
        self.assertEqual(last(*start, move(0, 4, 2, 0)), [4])
        self.assertEqual(last(*start, move(0, 2, 5, 0)), [4])

    def test_within_is_as_the_tree_is_now(self):
        start = [make(0, 0, 0), make(0, 2, 0), move(0, 3, 0, 0)]
        self.assertEqual(last(*start, move(0, 2, 3, 0)), [3])
        self.assertEqual(last(*start, undo(0), move(0, 2, 3, 0)), [-6])

    def test_a_thing_whose_make_is_taken_back_is_there_by_a_move(self):
        looked = Looked(make(0, 0, 0), make(0, 0, 1), move(0, 2, 1, 0), back(0, 0))
        self.assertEqual((looked.row(0, 0), looked.row(0, 1)), ([3], [2]))
        self.assertEqual(looked.do(move(0, 2, 3, 0), undo(0), back(0, 2), move(0, 2, 3, 0)), [[4], [4], [6], [-3]])

    def test_the_100th_deed_and_the_one_behind_it(self):
        told = ask(make(0, 0, 0), *[move(0, 2, 1, 0), move(0, 2, 0, 0)] * 50)
        self.assertEqual(told[98:], [[98], [99], [-5]])

    def test_of_several_the_one_told_first(self):
        full = [make(0, 0, 0), make(0, 2, 0)] + [add(0, 0, 1)] * 98
        self.assertEqual(last(*full, move(1, 9, 9, 9)), [-2])
        self.assertEqual(last(*full, move(0, 9, 9, 9)), [-3])
        self.assertEqual(last(*full, move(0, 9, 2, 9)), [-3])
        self.assertEqual(last(*full, move(0, 2, 9, 9)), [-3])
        self.assertEqual(last(*full, move(0, 2, 3, 9)), [-6])
        self.assertEqual(last(*full, move(0, 3, 0, 9)), [-1])
        self.assertEqual(last(*full, move(0, 3, 0, 0)), [-5])
