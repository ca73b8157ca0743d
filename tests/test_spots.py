"""Spots, rows and trees of deeds from several desks."""

import unittest

from handsoutline.deeds import BEGINNING, LEFT, RIGHT, Adding, Deed, DoingAgain, Put, TakingBack
from handsoutline.holding import holding
from handsoutline.spots import right_behind, spots_under
from tests.helper import Looked, back, begin, make, move, redo, undo


def put_deed(number, desk, count, at, side):
    return Deed(number, desk, 1, count, [0, 0, 0], Put(number + 2, 0, at, side))


def by_stamp(deeds):
    return sorted(deeds, key=lambda deed: (deed.count, deed.desk))


class Spots(unittest.TestCase):
    def order(self, deeds):
        return [put.number for put in spots_under(by_stamp(deeds), 0)]

    def test_at_the_beginning_in_the_order_of_stamps(self):
        deeds = [put_deed(0, 2, 1, BEGINNING, RIGHT), put_deed(1, 0, 2, BEGINNING, RIGHT),
                 put_deed(2, 1, 1, BEGINNING, RIGHT)]
        self.assertEqual(self.order(deeds), [2, 0, 1])

    def test_left_itself_right_each_in_the_order_of_stamps(self):
        deeds = [put_deed(0, 0, 1, BEGINNING, RIGHT), put_deed(1, 1, 3, 0, LEFT), put_deed(2, 0, 3, 0, LEFT),
                 put_deed(3, 1, 2, 0, RIGHT), put_deed(4, 2, 2, 0, RIGHT), put_deed(5, 0, 2, 0, LEFT),
                 put_deed(6, 2, 4, 3, LEFT), put_deed(7, 2, 5, 5, RIGHT)]
        self.assertEqual(self.order(deeds), [5, 7, 2, 1, 0, 6, 3, 4])

    def test_others_rows_have_spots_of_their_own(self):
        other = Deed(1, 1, 1, 2, [1, 0, 0], Put(3, 1, BEGINNING, RIGHT))
        deeds = [put_deed(0, 0, 1, BEGINNING, RIGHT), other]
        self.assertEqual(self.order(deeds), [0])
        self.assertEqual([put.number for put in spots_under(deeds, 1)], [1])

    def test_right_behind_where_nothing_is_to_the_right(self):
        self.assertEqual(right_behind([], 0, BEGINNING), (BEGINNING, RIGHT))
        deeds = [put_deed(0, 0, 1, BEGINNING, RIGHT), put_deed(1, 0, 2, BEGINNING, RIGHT)]
        self.assertEqual(right_behind(deeds, 0, 0), (0, RIGHT))
        self.assertEqual(right_behind(deeds, 0, 1), (1, RIGHT))

    def test_right_behind_where_something_is(self):
        deeds = [put_deed(0, 0, 1, BEGINNING, RIGHT), put_deed(1, 0, 2, 0, RIGHT), put_deed(2, 0, 3, 1, LEFT)]
        self.assertEqual(right_behind(deeds, 0, 0), (2, LEFT))
        self.assertEqual(right_behind(deeds, 0, 1), (1, RIGHT))
        self.assertEqual(right_behind(deeds, 0, 2), (2, RIGHT))
        self.assertEqual(right_behind(deeds, 0, BEGINNING), (0, LEFT))

    def test_right_behind_looks_at_its_own_row_alone(self):
        deeds = [put_deed(0, 0, 1, BEGINNING, RIGHT)]
        self.assertEqual(right_behind(deeds, 1, BEGINNING), (BEGINNING, RIGHT))

    def test_nested_as_deep_as_all_deeds(self):
        count = range(1, 100)
        for side in (LEFT, RIGHT):
            deeds = [put_deed(0, 0, 1, BEGINNING, RIGHT)] + [put_deed(k, 0, k + 1, k - 1, side) for k in count]
            order = list(range(100))
            self.assertEqual(self.order(deeds), order if side == RIGHT else order[::-1])


class Rows(unittest.TestCase):
    def test_spots_of_a_call(self):
        looked = Looked(make(0, 0, 0), make(0, 0, 1), make(0, 0, 0), make(0, 0, 2), make(0, 1, 0))
        found = [(deed.act.under, deed.act.at, deed.act.side) for deed in looked.house.deeds]
        self.assertEqual(found, [(0, -1, RIGHT), (0, 0, RIGHT), (0, 0, LEFT), (0, 1, LEFT), (1, -1, RIGHT)])

    def test_a_put_that_does_not_hold_has_a_spot_still(self):
        looked = Looked(make(0, 0, 0), make(0, 0, 1), undo(0), make(0, 0, 1))
        deed = looked.house.deeds[3]
        self.assertEqual((deed.act.at, deed.act.side), (1, LEFT))
        self.assertEqual(looked.row(0, 0), [2, 4])
        looked.do(back(0, 3), undo(0), redo(0))
        self.assertEqual(looked.row(0, 0), [2])

    def test_what_a_moved_thing_left_is_a_spot_still(self):
        looked = Looked(make(0, 0, 0), make(0, 0, 1), move(0, 3, 1, 0), make(0, 0, 1), undo(0), undo(0), redo(0))
        self.assertEqual((looked.row(0, 0), looked.row(0, 1)), ([2], [3]))
        looked.do(redo(0), back(0, 2))
        self.assertEqual((looked.row(0, 0), looked.row(0, 1)), ([2, 4, 3], []))

    def test_two_desks_at_one_place(self):
        looked = Looked(begin(2), make(0, 0, 0))
        looked.hear(0, 1)
        looked.do(make(1, 0, 1), make(1, 0, 2), make(0, 0, 1), make(0, 0, 2))
        looked.hear(1, 0)
        looked.hear(0, 1)
        self.assertEqual(looked.row(0, 0), [2, 5, 6, 3, 4])
        self.assertEqual(looked.row(1, 0), [2, 5, 6, 3, 4])

    def test_two_moves_that_would_lay_each_within_the_other(self):
        looked = Looked(begin(2), make(0, 0, 0), make(0, 0, 1))
        looked.hear(0, 1)
        looked.do(move(1, 2, 3, 0), move(0, 3, 2, 0))
        looked.hear(1, 0)
        looked.hear(0, 1)
        for desk in (0, 1):
            self.assertEqual((looked.row(desk, 0), looked.row(desk, 2), looked.row(desk, 3)), ([2], [3], []))
        looked.do(undo(0))
        self.assertEqual((looked.row(0, 0), looked.row(0, 3)), ([3], [2]))

    def test_put_under_what_is_not_there(self):
        looked = Looked(begin(2), make(0, 0, 0))
        looked.hear(0, 1)
        looked.do(make(1, 2, 0), undo(0))
        looked.hear(1, 0)
        self.assertEqual((looked.things(0), looked.row(0, 2)), ([], []))
        looked.do(redo(0))
        self.assertEqual((looked.things(0), looked.row(0, 2)), ([2, 3], [3]))

    def test_the_later_of_two_moves(self):
        looked = Looked(begin(2), make(0, 0, 0), make(0, 0, 1))
        looked.hear(0, 1)
        looked.do(move(1, 2, 1, 0), move(0, 2, 3, 0))
        looked.hear(1, 0)
        self.assertEqual((looked.row(0, 0), looked.row(0, 1), looked.row(0, 3)), ([3], [2], []))
        looked.hear(0, 1)
        looked.do(undo(1))
        self.assertEqual((looked.row(1, 0), looked.row(1, 1), looked.row(1, 3)), ([3], [], [2]))

    def test_things_within_one_another_as_deep_as_all_deeds(self):
        looked = Looked(make(0, 0, 0), *[make(0, thing, 0) for thing in range(2, 101)])
        self.assertEqual(looked.line(0, 101), list(range(101, 1, -1)) + [0])
        self.assertEqual(looked.do(move(0, 2, 101, 0), move(0, 101, 2, 0)), [[-6], [-5]])


class Holding(unittest.TestCase):
    def held(self, *acts):
        """The numbers of those that hold; each of acts is a count and what is done."""
        deeds = [Deed(k, 0, k + 1, count, [k], act) for k, (count, act) in enumerate(acts)]
        return [deed.number for deed in holding(deeds)]

    def test_the_last_decides(self):
        self.assertEqual(self.held((1, Adding(0, 1))), [0])
        self.assertEqual(self.held((1, Adding(0, 1)), (2, TakingBack(0))), [1])
        self.assertEqual(self.held((1, Adding(0, 1)), (2, TakingBack(0)), (3, DoingAgain(0))), [0, 1, 2])

    def test_a_count_of_more_than_20_above_decides_nothing(self):
        self.assertEqual(self.held((1, Adding(0, 1)), (21, TakingBack(0))), [1])
        self.assertEqual(self.held((1, Adding(0, 1)), (22, TakingBack(0))), [0, 1])
        self.assertEqual(self.held((1, Adding(0, 1)), (21, TakingBack(0)), (22, DoingAgain(0))), [1, 2])
