"""tree, row, line, values, amounts, find, same."""

import unittest

from tests.helper import (GREATEST, add, amounts, ask, back, begin, clear, comes, find, last, less, letters, line, make,
                          move, redo, row, same, send, tell, tree, undo, values)

MOST = 10 ** 9

# Under the root 2, 6 and 5; under 2 are 3 and, under that, 4; in the bin 7 with 8 under it.
OUTLINE = [make(0, 0, 0), make(0, 2, 0), make(0, 3, 0), make(0, 0, 1), make(0, 0, 1), make(0, 1, 0), make(0, 7, 0)]

# 100 things, each under the one before.
CHAIN = [make(0, 0, 0)] + [make(0, thing, 0) for thing in range(2, 101)]


class Tree(unittest.TestCase):
    def test_at_the_beginning(self):
        self.assertEqual(ask(tree(0, 0), tree(0, 1)), [[0], [0]])

    def test_rows_in_order_each_followed_by_all_within_it(self):
        self.assertEqual(last(*OUTLINE, tree(0, 0)), [5, 2, 1, 3, 2, 4, 3, 6, 1, 5, 1])

    def test_of_the_bin(self):
        self.assertEqual(last(*OUTLINE, tree(0, 1)), [2, 7, 1, 8, 2])

    def test_of_a_thing_depths_are_counted_from_it(self):
        told = ask(*OUTLINE, tree(0, 2), tree(0, 3), tree(0, 4), tree(0, 7))
        self.assertEqual(told[7:], [[2, 3, 1, 4, 2], [1, 4, 1], [0], [1, 8, 1]])

    def test_behind_a_move_all_within_goes_along(self):
        told = ask(*OUTLINE, move(0, 2, 5, 0), tree(0, 0), move(0, 2, 1, 1), tree(0, 0), tree(0, 1))
        self.assertEqual(told[8], [5, 6, 1, 5, 1, 2, 2, 3, 3, 4, 4])
        self.assertEqual(told[10:], [[2, 6, 1, 5, 1], [5, 7, 1, 8, 2, 2, 1, 3, 2, 4, 3]])

    def test_a_thing_whose_make_is_taken_back_takes_all_within_along(self):
        told = ask(*OUTLINE, back(0, 1), tree(0, 0), redo(0), tree(0, 0))
        self.assertEqual((told[8], told[10]), ([3, 2, 1, 6, 1, 5, 1], [5, 2, 1, 3, 2, 4, 3, 6, 1, 5, 1]))

    def test_99_deep_and_more(self):
        told = last(*CHAIN, tree(0, 0))
        self.assertEqual(told, [100] + [number for depth in range(1, 101) for number in (depth + 1, depth)])
        self.assertEqual(last(*CHAIN, tree(0, 2))[-2:], [101, 99])

    def test_many_in_one_row(self):
        told = last(*[make(0, 0, 0)] * 100, tree(0, 0))
        self.assertEqual(told, [100] + [number for thing in range(101, 1, -1) for number in (thing, 1)])

    def test_refusals(self):
        self.assertEqual(ask(*OUTLINE, tree(1, 0), tree(0, 9), tree(0, GREATEST), tree(GREATEST, 0), tree(1, 9))[7:],
                         [[-2], [-3], [-3], [-2], [-2]])


class Row(unittest.TestCase):
    def test_at_the_beginning(self):
        self.assertEqual(ask(row(0, 0), row(0, 1)), [[0], [0]])

    def test_the_things_right_under_it(self):
        told = ask(*OUTLINE, row(0, 0), row(0, 1), row(0, 2), row(0, 3), row(0, 4))
        self.assertEqual(told[7:], [[3, 2, 6, 5], [1, 7], [1, 3], [1, 4], [0]])

    def test_behind_make_and_move(self):
        told = ask(make(0, 0, 0), make(0, 0, 1), make(0, 0, 1), row(0, 0), move(0, 2, 0, 2), row(0, 0),
                   move(0, 3, 0, 0), row(0, 0), move(0, 4, 0, 1), row(0, 0))
        self.assertEqual(told[3::2], [[3, 2, 4, 3], [3, 4, 3, 2], [3, 3, 4, 2], [3, 3, 4, 2]])

    def test_as_the_asked_desk_sees_it(self):
        told = ask(begin(2), make(0, 0, 0), make(1, 0, 0), row(0, 0), row(1, 0), *letters(0, (0, 1)), row(1, 0),
                   row(0, 0))
        self.assertEqual(told[3:5] + told[-2:], [[1, 2], [1, 3], [2, 2, 3], [1, 2]])

    def test_two_desks_at_one_place(self):
        start = [begin(2), make(0, 0, 0), *letters(0, (0, 1)), make(1, 0, 1), make(1, 0, 2), make(0, 0, 1),
                 make(0, 0, 2), send(0, 1), send(1, 0)]
        self.assertEqual(ask(*start, comes(1), comes(2), row(0, 0), row(1, 0))[-2:], [[5, 2, 5, 6, 3, 4]] * 2)

    def test_refusals(self):
        self.assertEqual(ask(row(1, 0), row(0, 2), row(0, GREATEST), row(GREATEST, 0), row(1, 2)),
                         [[-2], [-3], [-3], [-2], [-2]])


class Line(unittest.TestCase):
    def test_the_root_and_the_bin(self):
        self.assertEqual(ask(line(0, 0), line(0, 1)), [[1, 0], [1, 1]])

    def test_up_to_the_root_or_the_bin(self):
        told = ask(*OUTLINE, line(0, 4), line(0, 5), line(0, 8))
        self.assertEqual(told[7:], [[4, 4, 3, 2, 0], [2, 5, 0], [3, 8, 7, 1]])

    def test_behind_a_move(self):
        self.assertEqual(last(*OUTLINE, move(0, 3, 8, 0), line(0, 4)), [5, 4, 3, 8, 7, 1])

    def test_99_deep_and_more(self):
        self.assertEqual(last(*CHAIN, line(0, 100)), [100] + list(range(100, 1, -1)) + [0])
        self.assertEqual(last(*CHAIN, line(0, 101)), [101] + list(range(101, 1, -1)) + [0])

    def test_refusals(self):
        told = ask(make(0, 0, 0), undo(0), line(0, 2), line(1, 0), line(0, GREATEST), line(GREATEST, 0), line(1, 9))
        self.assertEqual(told[2:], [[-3], [-2], [-3], [-2], [-2]])


class Values(unittest.TestCase):
    def test_none_one_and_each_field_by_itself(self):
        told = ask(tell(0, 0, 1, 5), tell(0, 0, 1, 6), tell(0, 1, 1, 9), tell(0, 0, 2, MOST), values(0, 0, 0),
                   values(0, 0, 1), values(0, 0, 2), values(0, 1, 1))
        self.assertEqual(told[4:], [[0], [1, 1, 6], [1, 3, MOST], [1, 2, 9]])

    def test_cleared_and_told_again(self):
        told = ask(tell(0, 0, 0, 5), clear(0, 0, 0), values(0, 0, 0), tell(0, 0, 0, 0), values(0, 0, 0))
        self.assertEqual(told[2::2], [[0], [1, 2, 0]])

    def test_two_desks_that_told_unseen_by_one_another(self):
        start = [begin(2), tell(1, 0, 0, 5), tell(0, 0, 0, 4), tell(0, 0, 0, 6), send(0, 1), send(1, 0), comes(0),
                 comes(1)]
        # The stamps are (1, 1) and (2, 0): the earliest first, whatever their numbers.
        self.assertEqual(ask(*start, values(0, 0, 0), values(1, 0, 0))[-2:], [[2, 0, 5, 2, 6]] * 2)
        self.assertEqual(ask(*start, tell(1, 0, 0, 7), values(1, 0, 0), values(0, 0, 0))[-2:],
                         [[1, 3, 7], [2, 0, 5, 2, 6]])

    def test_the_earliest_stamp_first_not_the_lesser_number(self):
        told = ask(begin(2), tell(1, 0, 0, 8), tell(0, 0, 0, 9), *letters(0, (0, 1), (1, 0)), values(0, 0, 0),
                   values(1, 0, 0))
        self.assertEqual(told[-2:], [[2, 1, 9, 0, 8]] * 2)

    def test_the_same_value_told_twice_is_two(self):
        told = ask(begin(2), tell(1, 0, 0, 8), tell(0, 0, 0, 8), *letters(0, (1, 0)), values(0, 0, 0))
        self.assertEqual(told[-1], [2, 1, 8, 0, 8])

    def test_three_desks_and_a_clearing_that_saw_two(self):
        start = [begin(3), tell(0, 0, 2, 4), tell(1, 0, 2, 5), tell(2, 0, 2, 6), *letters(0, (1, 0)), clear(0, 0, 2)]
        self.assertEqual(ask(*start, values(0, 0, 2), *letters(1, (2, 0)), values(0, 0, 2))[-1], [1, 2, 6])
        self.assertEqual(ask(*start, *letters(1, (0, 2), (0, 1)), values(2, 0, 2), values(1, 0, 2))[-2:],
                         [[1, 2, 6], [0]])

    def test_a_clearing_unseen_hides_nothing(self):
        told = ask(begin(2), tell(0, 0, 0, 4), clear(1, 0, 0), *letters(0, (0, 1), (1, 0)), values(0, 0, 0),
                   values(1, 0, 0))
        self.assertEqual(told[-2:], [[1, 0, 4], [1, 0, 4]])

    def test_what_is_taken_back_hides_nothing_and_is_no_value(self):
        told = ask(tell(0, 0, 0, 5), tell(0, 0, 0, 6), clear(0, 0, 0), back(0, 2), values(0, 0, 0), back(0, 1),
                   values(0, 0, 0), undo(0), values(0, 0, 0), redo(0), values(0, 0, 0))
        self.assertEqual(told[4::2], [[1, 1, 6], [1, 0, 5], [0], [1, 0, 5]])

    def test_a_thing_that_was_away_has_its_values_still(self):
        told = ask(make(0, 0, 0), tell(0, 2, 0, 5), back(0, 0), values(0, 2, 0), redo(0), values(0, 2, 0))
        self.assertEqual(told[3:], [[-3], [0], [1, 1, 5]])

    def test_refusals(self):
        told = ask(values(1, 0, 0), values(0, 2, 0), values(0, 0, 3), values(0, 0, GREATEST), values(0, GREATEST, 0),
                   values(GREATEST, 0, 0), values(1, 2, 3), values(0, 2, 3))
        self.assertEqual(told, [[-2], [-3], [-1], [-1], [-3], [-2], [-2], [-3]])


class Amounts(unittest.TestCase):
    def test_at_the_beginning(self):
        self.assertEqual(ask(amounts(0, 0), amounts(0, 1)), [[0, 0, 0], [0, 0, 0]])

    def test_its_own_and_all_together(self):
        start = OUTLINE + [add(0, 0, 1), add(0, 2, 10), add(0, 4, 100), add(0, 5, 1000), add(0, 8, 7), less(0, 4, 40)]
        told = ask(*start, amounts(0, 0), amounts(0, 2), amounts(0, 3), amounts(0, 4), amounts(0, 1))
        self.assertEqual(told[13:], [[5, 1, 1071], [2, 10, 70], [1, 0, 60], [0, 60, 60], [2, 0, 7]])

    def test_below_0(self):
        told = ask(make(0, 0, 0), less(0, 2, MOST), less(0, 2, MOST), add(0, 0, 5), amounts(0, 2), amounts(0, 0),
                   less(0, 0, 6), amounts(0, 0))
        self.assertEqual(told[4:], [[0, -2 * MOST, -2 * MOST], [1, 5, 5 - 2 * MOST], [4], [1, -1, -1 - 2 * MOST]])

    def test_what_refusals_look_like_may_be_an_amount(self):
        self.assertEqual(last(less(0, 0, 2), amounts(0, 0)), [0, -2, -2])

    def test_of_several_desks(self):
        told = ask(begin(3), add(0, 0, 5), less(1, 0, 9), add(2, 0, 1), *letters(0, (0, 2), (1, 2)), amounts(0, 0),
                   amounts(1, 0), amounts(2, 0))
        self.assertEqual(told[-3:], [[0, 5, 5], [0, -9, -9], [0, -3, -3]])

    def test_taken_back_and_done_again(self):
        told = ask(add(0, 0, 5), add(0, 0, 7), back(0, 0), amounts(0, 0), redo(0), amounts(0, 0))
        self.assertEqual(told[3::2], [[0, 7, 7], [0, 12, 12]])

    def test_99_deep_and_more(self):
        self.assertEqual(last(*CHAIN[:99], add(0, 100, 4), amounts(0, 0)), [99, 0, 4])

    def test_refusals(self):
        told = ask(amounts(1, 0), amounts(0, 2), amounts(0, GREATEST), amounts(GREATEST, 0), amounts(1, 2))
        self.assertEqual(told, [[-2], [-3], [-3], [-2], [-2]])


class Find(unittest.TestCase):
    def test_in_the_order_of_tree(self):
        tells = [tell(0, thing, 1, 7) for thing in (5, 4, 6, 2)]
        self.assertEqual(last(*OUTLINE, *tells, find(0, 1, 7)), [4, 2, 4, 6, 5])

    def test_within_the_root_alone(self):
        tells = [tell(0, thing, 1, 7) for thing in (0, 1, 7, 8, 3)]
        told = ask(*OUTLINE, *tells, find(0, 1, 7), move(0, 7, 4, 0), find(0, 1, 7), move(0, 2, 1, 0), find(0, 1, 7))
        self.assertEqual(told[12::2], [[1, 3], [3, 3, 7, 8], [0]])

    def test_this_field_and_this_value(self):
        told = ask(make(0, 0, 0), tell(0, 2, 0, 7), tell(0, 2, 1, 8), find(0, 0, 7), find(0, 1, 7), find(0, 1, 8),
                   find(0, 2, 7), tell(0, 2, 0, 9), find(0, 0, 7), find(0, 0, 9))
        self.assertEqual(told[3:7] + told[8:], [[1, 2], [0], [1, 2], [0], [0], [1, 2]])

    def test_0_and_10_to_the_9_and_above(self):
        told = ask(make(0, 0, 0), find(0, 0, 0), tell(0, 2, 0, 0), tell(0, 2, 1, MOST), find(0, 0, 0), find(0, 1, MOST),
                   find(0, 1, MOST + 1), find(0, 1, GREATEST))
        self.assertEqual(told[1:2] + told[4:], [[0], [1, 2], [1, 2], [0], [0]])

    def test_two_desks_that_told_unseen_by_one_another(self):
        start = [begin(2), make(0, 0, 0), *letters(0, (0, 1)), tell(0, 2, 0, 5), tell(1, 2, 0, 6),
                 *letters(1, (0, 1), (1, 0))]
        for desk in (0, 1):
            self.assertEqual(ask(*start, find(desk, 0, 5), find(desk, 0, 6), find(desk, 0, 7))[-3:],
                             [[1, 2], [1, 2], [0]])

    def test_the_same_value_told_twice_is_one_thing(self):
        told = last(begin(2), make(0, 0, 0), *letters(0, (0, 1)), tell(0, 2, 0, 5), tell(1, 2, 0, 5),
                    *letters(1, (1, 0)), find(0, 0, 5))
        self.assertEqual(told, [1, 2])

    def test_cleared_and_taken_back(self):
        told = ask(make(0, 0, 0), tell(0, 2, 0, 5), clear(0, 2, 0), find(0, 0, 5), undo(0), find(0, 0, 5), undo(0),
                   find(0, 0, 5))
        self.assertEqual(told[3::2], [[0], [1, 2], [0]])

    def test_refusals(self):
        told = ask(find(1, 0, 0), find(0, 3, 0), find(0, GREATEST, 0), find(GREATEST, 0, 0), find(1, 3, 0))
        self.assertEqual(told, [[-2], [-1], [-1], [-2], [-2]])


class Same(unittest.TestCase):
    def test_of_a_desk_with_itself(self):
        self.assertEqual(ask(same(0, 0), make(0, 0, 0), same(0, 0)), [[1, 1], [0, 2], [1, 1]])
        self.assertEqual(last(begin(2), make(1, 0, 0), same(1, 1)), [1, 1])

    def test_the_counts_differ_but_not_the_tree(self):
        told = ask(begin(2), same(0, 1), add(0, 0, 1), same(0, 1), make(1, 1, 0), same(1, 0), same(0, 1))
        self.assertEqual(told[1::2] + told[6:], [[1, 1], [0, 1], [0, 1], [0, 1]])

    def test_as_many_deeds_but_other_ones(self):
        self.assertEqual(last(begin(2), add(0, 0, 1), add(1, 0, 1), same(0, 1)), [0, 1])

    def test_other_things_depths_or_order(self):
        start = [begin(2), make(0, 0, 0), make(0, 0, 1), *letters(0, (0, 1))]
        self.assertEqual(last(*start, same(0, 1)), [1, 1])
        for call in (make(0, 0, 2), move(0, 3, 2, 0), move(0, 3, 0, 0), move(0, 3, 1, 0)):
            self.assertEqual(ask(*start, call, same(0, 1), same(1, 0))[-2:], [[0, 0], [0, 0]])

    def test_the_same_things_in_the_same_order_at_other_depths(self):
        start = [begin(2), make(0, 0, 0), make(0, 0, 1), *letters(0, (0, 1)), move(0, 3, 2, 0)]
        self.assertEqual(ask(*start, tree(0, 0), tree(1, 0), same(0, 1))[-3:],
                         [[2, 2, 1, 3, 2], [2, 2, 1, 3, 1], [0, 0]])

    def test_behind_letters_both_ways(self):
        told = ask(begin(3), make(0, 0, 0), make(1, 0, 0), *letters(0, (0, 1)), same(0, 1), *letters(1, (1, 0)),
                   same(0, 1), same(0, 2))
        self.assertEqual(told[5:6] + told[8:], [[0, 0], [1, 1], [0, 0]])

    def test_moved_there_and_back_is_the_same_tree(self):
        start = [begin(2), make(0, 0, 0), make(0, 0, 1), *letters(0, (0, 1)), move(0, 2, 0, 1), move(0, 2, 0, 0)]
        self.assertEqual(last(*start, same(0, 1)), [0, 1])

    def test_refusals(self):
        told = ask(begin(2), same(0, 2), same(2, 0), same(2, 2), same(GREATEST, 0), same(0, GREATEST))
        self.assertEqual(told[1:], [[-2]] * 5)
