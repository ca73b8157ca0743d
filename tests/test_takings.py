"""back, undo, redo."""

import unittest

from tests.helper import GREATEST, Looked, add, ask, back, begin, clear, last, less, make, move, redo, tell, undo


class Back(unittest.TestCase):
    def test_answers_the_new_deed(self):
        self.assertEqual(ask(make(0, 0, 0), add(0, 0, 1), back(0, 0)), [[0, 2], [1], [2]])

    def test_each_of_the_four_can_be_taken_back(self):
        start = [make(0, 0, 0), move(0, 2, 1, 0), tell(0, 2, 0, 1), clear(0, 2, 0), add(0, 2, 1), less(0, 2, 1)]
        told = ask(*start, *[back(0, deed) for deed in range(6)])
        self.assertEqual(told[6:], [[deed] for deed in range(6, 12)])

    def test_what_is_taken_back_is_not_there(self):
        told = ask(make(0, 0, 0), make(0, 2, 0), make(0, 0, 1), back(0, 0), add(0, 2, 1), add(0, 3, 1), add(0, 4, 1),
                   make(0, 0, 2), make(0, 0, 1))
        self.assertEqual(told[3:], [[3], [-3], [-3], [4], [-1], [5, 5]])

    def test_no_such_desk(self):
        self.assertEqual(last(add(0, 0, 1), back(1, 0)), [-2])
        self.assertEqual(last(add(0, 0, 1), back(GREATEST, 0)), [-2])

    def test_no_such_deed(self):
        self.assertEqual(last(back(0, 0)), [-3])
        self.assertEqual(last(add(0, 0, 1), back(0, 1)), [-3])
        self.assertEqual(last(add(0, 0, 1), back(0, GREATEST)), [-3])

    def test_another_desk_s_deed(self):
        self.assertEqual(ask(begin(2), add(0, 0, 1), back(1, 0), back(0, 0))[2:], [[-3], [1]])

    def test_another_desk_s_deed_that_was_heard_of(self):
        looked = Looked(begin(2), add(0, 0, 1))
        looked.hear(0, 1)
        self.assertEqual(looked.do(back(1, 0), undo(1), redo(1)), [[-3], [-3], [-3]])

    def test_a_taking_back_or_doing_again_is_not_taken_back(self):
        told = ask(add(0, 0, 1), undo(0), back(0, 1), redo(0), back(0, 2), back(0, 0))
        self.assertEqual(told[2:], [[-3], [0], [-3], [3]])

    def test_it_does_not_hold(self):
        told = ask(add(0, 0, 1), back(0, 0), back(0, 0), redo(0), back(0, 0), back(0, 0))
        self.assertEqual(told[1:], [[1], [-4], [0], [3], [-4]])

    def test_a_count_of_just_20_above_and_of_21(self):
        for deed in range(3):
            start = [add(0, 0, 1)] * deed
            self.assertEqual(last(*start, make(0, 0, 0), *[add(0, 0, 1)] * 19, back(0, deed)), [deed + 20])
            self.assertEqual(last(*start, make(0, 0, 0), *[add(0, 0, 1)] * 20, back(0, deed)), [-4])

    def test_another_desk_s_deeds_make_it_no_later(self):
        told = last(begin(2), add(0, 0, 1), *[add(1, 0, 1)] * 30, back(0, 0))
        self.assertEqual(told, [31])

    def test_a_greatest_count_that_was_told_makes_it_later(self):
        for many, answer in ((20, [21]), (21, [-4])):
            looked = Looked(begin(2), add(0, 0, 1), *[add(1, 0, 1)] * many)
            looked.hear(1, 0)
            self.assertEqual(looked.do(back(0, 0)), [answer])

    def test_of_several_the_one_told_first(self):
        full = [make(0, 0, 0)] + [add(0, 0, 1)] * 97 + [undo(0)]
        self.assertEqual(last(*full, add(0, 0, 1), back(1, 0)), [-2])
        self.assertEqual(last(*full, add(0, 0, 1), back(0, 98)), [-3])
        self.assertEqual(last(*full, add(0, 0, 1), back(0, 0)), [-4])
        self.assertEqual(last(*full, add(0, 0, 1), back(0, 97)), [-4])
        self.assertEqual(last(*full, add(0, 0, 1), back(0, 99)), [-5])
        self.assertEqual(last(*full, back(0, 96)), [99])


class Undo(unittest.TestCase):
    def test_answers_the_deed_that_is_taken_back(self):
        self.assertEqual(ask(make(0, 0, 0), add(0, 2, 1), undo(0), undo(0), undo(0))[2:], [[1], [0], [-3]])

    def test_the_last_of_each_sort(self):
        start = [make(0, 0, 0), move(0, 2, 1, 0), tell(0, 2, 0, 1), clear(0, 2, 0), add(0, 2, 1), less(0, 2, 1)]
        self.assertEqual(ask(*start, *[undo(0)] * 7)[6:], [[5], [4], [3], [2], [1], [0], [-3]])

    def test_of_its_own_alone(self):
        told = ask(begin(2), add(0, 0, 1), add(1, 0, 1), add(1, 0, 1), undo(0), undo(0), undo(1))
        self.assertEqual(told[4:], [[0], [-3], [2]])

    def test_the_last_by_stamps_of_those_that_hold(self):
        told = ask(add(0, 0, 1), add(0, 0, 2), add(0, 0, 3), back(0, 2), undo(0), add(0, 0, 4), undo(0), undo(0))
        self.assertEqual(told[4:], [[1], [5], [5], [0]])

    def test_what_was_done_again_holds(self):
        self.assertEqual(ask(add(0, 0, 1), undo(0), redo(0), undo(0), undo(0))[3:], [[0], [-3]])

    def test_it_is_a_deed(self):
        self.assertEqual(last(add(0, 0, 1), undo(0), redo(0), add(0, 0, 1)), [3])

    def test_it_sees_the_tree_as_before(self):
        told = ask(make(0, 0, 0), make(0, 2, 0), move(0, 3, 1, 0), make(0, 1, 1), undo(0), undo(0), make(0, 1, 1),
                   make(0, 2, 1))
        self.assertEqual(told[4:], [[3], [2], [-1], [6, 5]])

    def test_no_such_desk(self):
        self.assertEqual(ask(add(0, 0, 1), undo(1), undo(GREATEST)), [[0], [-2], [-2]])

    def test_there_is_none(self):
        self.assertEqual(ask(undo(0)), [[-3]])
        self.assertEqual(last(add(0, 0, 1), undo(0), undo(0)), [-3])

    def test_a_count_of_just_20_above_and_of_21(self):
        held = [make(0, 0, 0), add(0, 0, 1)]
        toggled = held + [undo(0), redo(0)] * 9
        self.assertEqual(ask(*toggled, undo(0), undo(0))[20:], [[1], [-4]])
        self.assertEqual(ask(add(0, 0, 1), *[undo(0), redo(0)] * 10, undo(0))[19:], [[0], [0], [-4]])
        self.assertEqual(ask(make(0, 0, 0), *toggled, back(0, 1), undo(0))[-1], [2])

    def test_the_last_alone_is_asked_whether_it_is_too_late(self):
        start = [make(0, 0, 0), add(0, 0, 1)] + [undo(0), redo(0)] * 10
        self.assertEqual(ask(*start, undo(0), redo(0))[20:], [[1], [1], [-4], [-3]])

    def test_the_100th_deed_and_the_one_behind_it(self):
        self.assertEqual(ask(*[add(0, 0, 1)] * 99, undo(0), undo(0))[99:], [[98], [-5]])

    def test_of_several_the_one_told_first(self):
        full = [begin(3), make(1, 0, 0)] + [add(2, 0, 1)] * 99
        self.assertEqual(last(*full, undo(3)), [-2])
        self.assertEqual(last(*full, undo(0)), [-3])
        self.assertEqual(last(*full, undo(1)), [-5])
        late = [begin(2)] + [add(0, 0, 1), add(0, 0, 1)] + [undo(0), redo(0)] * 9 + [redo(0), undo(0)]
        self.assertEqual(last(*late, *[add(1, 0, 1)] * 79, undo(0)), [-4])


class Redo(unittest.TestCase):
    def test_answers_the_deed_that_is_done_again(self):
        self.assertEqual(ask(make(0, 0, 0), make(0, 0, 0), undo(0), redo(0))[2:], [[1], [1]])

    def test_from_the_last_taken_back_to_the_first(self):
        told = ask(add(0, 0, 1), add(0, 0, 2), add(0, 0, 3), *[undo(0)] * 3, *[redo(0)] * 4)
        self.assertEqual(told[3:], [[2], [1], [0], [0], [1], [2], [-3]])

    def test_what_back_took_back(self):
        told = ask(add(0, 0, 1), add(0, 0, 2), add(0, 0, 3), back(0, 1), back(0, 0), redo(0), redo(0), redo(0))
        self.assertEqual(told[5:], [[0], [1], [-3]])

    def test_what_was_done_again_and_taken_back_later_comes_first(self):
        told = ask(add(0, 0, 1), add(0, 0, 2), back(0, 1), back(0, 0), redo(0), back(0, 0), redo(0), redo(0))
        self.assertEqual(told[4:], [[0], [5], [0], [1]])

    def test_none_behind_one_of_the_four(self):
        start = [make(0, 0, 0), add(0, 0, 1), undo(0)]
        for call in (make(0, 0, 0), move(0, 2, 1, 0), tell(0, 2, 0, 1), clear(0, 2, 0), add(0, 2, 1), less(0, 2, 1)):
            self.assertEqual(last(*start, call, redo(0)), [-3])
            self.assertEqual(ask(*start, call, undo(0), redo(0), redo(0))[4:], [[3], [3], [-3]])

    def test_a_refused_call_is_not_done(self):
        start = [make(0, 0, 0), add(0, 0, 1), undo(0)]
        for call in (make(0, 0, 9), move(0, 2, 2, 0), tell(0, 2, 3, 1), clear(0, 9, 0), back(0, 1), undo(1)):
            self.assertEqual(last(*start, call, redo(0)), [1])

    def test_another_desk_s_deeds_do_not_matter(self):
        self.assertEqual(last(begin(2), add(0, 0, 1), undo(0), add(1, 0, 1), redo(0)), [0])
        looked = Looked(begin(2), add(0, 0, 1), undo(0), *[add(1, 0, 1)] * 3)
        looked.hear(1, 0)
        self.assertEqual(looked.do(redo(0)), [[0]])

    def test_each_desk_does_its_own_again(self):
        told = ask(begin(2), add(0, 0, 1), add(1, 0, 1), undo(0), undo(1), redo(0), redo(0), redo(1))
        self.assertEqual(told[5:], [[0], [-3], [1]])

    def test_no_such_desk(self):
        self.assertEqual(ask(add(0, 0, 1), undo(0), redo(1), redo(GREATEST))[2:], [[-2], [-2]])

    def test_there_is_none(self):
        self.assertEqual(ask(redo(0)), [[-3]])
        self.assertEqual(last(add(0, 0, 1), redo(0)), [-3])
        self.assertEqual(last(add(0, 0, 1), undo(0), redo(0), redo(0)), [-3])

    def test_a_count_of_just_20_above_and_of_21(self):
        # The first deed, of count 1, is taken back; the last one goes back and forth until the count is told.
        start = [add(0, 0, 1), add(0, 0, 2)]
        late = start + [back(0, 0)] + [undo(0), redo(0)] * 9
        self.assertEqual(last(*late, redo(0)), [-4])
        start = start + [add(0, 0, 3)]
        just = start + [back(0, 0)] + [undo(0), redo(0)] * 8
        self.assertEqual(last(*just, redo(0), add(0, 0, 1)), [21])
        self.assertEqual(last(*just, redo(0)), [0])

    def test_the_100th_deed_and_the_one_behind_it(self):
        start = [add(0, 0, 1)] * 97
        self.assertEqual(ask(*start, undo(0), undo(0), redo(0), redo(0))[97:], [[96], [95], [95], [-5]])

    def test_of_several_the_one_told_first(self):
        full = [begin(2), add(0, 0, 1), undo(0)] + [add(1, 0, 1)] * 98
        self.assertEqual(last(*full, redo(2)), [-2])
        self.assertEqual(last(*full, redo(1)), [-3])
        self.assertEqual(last(*full, redo(0)), [-5])
        late = [begin(2), add(0, 0, 1), add(0, 0, 2), back(0, 0)] + [undo(0), redo(0)] * 9
        self.assertEqual(last(*late, *[add(1, 0, 1)] * 79, redo(0)), [-4])
