"""comes: what becomes of a desk when a letter comes."""

import unittest

from tests.helper import GREATEST, add, ask, back, begin, comes, kept, last, letters, make, row, same, send, tell, undo


class Comes(unittest.TestCase):
    def test_answers_how_many_deeds_were_not_had(self):
        told = ask(begin(2), make(0, 0, 0), add(0, 2, 1), send(0, 1), make(1, 0, 0), comes(0))
        self.assertEqual(told[-1], [2])

    def test_a_letter_without_deeds(self):
        self.assertEqual(ask(begin(2), send(0, 1), comes(0), same(0, 1))[2:], [[0], [1, 1]])

    def test_doubled(self):
        told = ask(begin(2), make(0, 0, 0), send(0, 1), *[comes(0)] * 3, row(1, 0))
        self.assertEqual(told[3:], [[1], [0], [0], [1, 2]])

    def test_in_their_order_and_in_another(self):
        start = [begin(2), make(0, 0, 0), send(0, 1), make(0, 0, 1), make(0, 0, 2), send(0, 1)]
        self.assertEqual(ask(*start, comes(0), comes(1), row(1, 0))[6:], [[1], [2], [3, 2, 3, 4]])
        self.assertEqual(ask(*start, comes(1), comes(0), row(1, 0))[6:], [[3], [0], [3, 2, 3, 4]])

    def test_one_that_never_comes(self):
        told = ask(begin(2), make(0, 0, 0), send(0, 1), row(1, 0), make(0, 0, 0), send(0, 1), comes(1), row(1, 0))
        self.assertEqual(told[3:], [[0], [1, 3], [1, 2], [2], [2, 3, 2]])

    def test_it_tells_what_was_so_when_it_was_written(self):
        told = ask(begin(2), make(0, 0, 0), send(0, 1), make(0, 0, 0), undo(0), comes(0), row(1, 0), same(0, 1))
        self.assertEqual(told[5:], [[1], [1, 2], [0, 1]])

    def test_it_comes_to_its_own_desk_alone(self):
        told = ask(begin(3), make(0, 0, 0), send(0, 2), comes(0), row(1, 0), row(2, 0), same(0, 1), same(0, 2))
        self.assertEqual(told[4:], [[0], [1, 2], [0, 0], [1, 1]])

    def test_by_way_of_a_third_desk(self):
        told = ask(begin(3), make(0, 0, 0), *letters(0, (0, 2)), make(2, 2, 0), *letters(1, (2, 1)), row(1, 2),
                   send(0, 1), comes(2))
        self.assertEqual(told[4:], [[1, 3], [1, 2], [2], [1, 3], [2, 1], [0]])

    def test_both_ways_at_once(self):
        told = ask(begin(2), make(0, 0, 0), make(1, 0, 0), make(1, 0, 1), send(0, 1), send(1, 0), comes(0), comes(1),
                   same(0, 1))
        self.assertEqual(told[4:], [[0, 1], [1, 2], [1], [2], [1, 1]])

    def test_own_deeds_that_come_back_are_not_new(self):
        told = ask(begin(3), add(0, 0, 1), *letters(0, (0, 1), (1, 2), (2, 0)))
        self.assertEqual(told[2:], [[0, 1], [1], [1, 1], [1], [2, 1], [0]])

    def test_a_full_house_still_has_letters(self):
        told = ask(begin(2), *[add(0, 0, 1)] * 100, send(0, 1), comes(0), comes(0), add(1, 0, 1))
        self.assertEqual(told[101:], [[0, 100], [100], [0], [-5]])

    def test_the_200th_letter_comes(self):
        told = ask(begin(2), *[send(0, 1)] * 199, add(0, 0, 1), send(0, 1), send(0, 1), comes(200), comes(199))
        self.assertEqual(told[201:], [[199, 1], [-5], [-2], [1]])

    def test_no_such_letter(self):
        self.assertEqual(ask(comes(0), comes(GREATEST)), [[-2], [-2]])
        told = ask(begin(2), send(0, 1), send(0, 2), comes(1), comes(GREATEST), comes(0))
        self.assertEqual(told[2:], [[-2], [-2], [-2], [0]])

    def test_letters_are_gone_behind_a_second_begin(self):
        told = ask(begin(2), make(0, 0, 0), send(0, 1), begin(2), comes(0), make(1, 0, 0), send(1, 0), comes(0))
        self.assertEqual(told[3:], [[0], [-2], [0, 2], [0, 1], [1]])

    def test_a_refused_begin_leaves_letters(self):
        self.assertEqual(last(begin(2), make(0, 0, 0), send(0, 1), begin(7), comes(0)), [1])


class GreatestCount(unittest.TestCase):
    def test_the_next_deed_has_a_count_above_the_letter_s(self):
        # Desk 1's own deed, of count 1, can be taken back with a count of 21, not of 22.
        for many, answer in ((19, [20]), (20, [21]), (21, [-4])):
            told = last(begin(2), add(1, 0, 1), *[add(0, 0, 1)] * many, *letters(0, (0, 1)), back(1, 0))
            self.assertEqual(told, answer)

    def test_the_greater_of_both(self):
        # Desk 1 has a greatest count of 19 and hears of one that's below that.
        start = [begin(2), *[add(1, 0, 1)] * 19, add(0, 0, 1), *letters(0, (0, 1))]
        self.assertEqual(ask(*start, back(1, 0), back(1, 0))[-2:], [[20], [-4]])
        self.assertEqual(last(*start, add(1, 0, 1), back(1, 0)), [21])
        self.assertEqual(last(*start, add(1, 0, 1), add(1, 0, 1), back(1, 0)), [-4])

    def test_it_comes_by_way_of_a_third_desk_too(self):
        for many, answer in ((20, [21]), (21, [-4])):
            told = last(begin(3), add(1, 0, 1), *[add(0, 0, 1)] * many, *letters(0, (0, 2), (2, 1)), back(1, 0))
            self.assertEqual(told, answer)

    def test_a_later_stamp_wins_over_what_was_heard(self):
        # Desk 1 tells behind the letter, so its telling saw desk 0's and comes later.
        told = ask(begin(2), *[tell(0, 0, 0, 5)] * 3, *letters(0, (0, 1)), tell(1, 0, 0, 6), *letters(1, (1, 0)),
                   [17, 0, 0, 0], [17, 1, 0, 0])
        self.assertEqual(told[-2:], [[1, 3, 6], [1, 3, 6]])


class Sure(unittest.TestCase):
    def test_a_letter_from_there_makes_sure(self):
        told = ask(begin(2), add(0, 0, 1), add(0, 0, 1), *letters(0, (0, 1)), send(0, 1), send(1, 0), comes(2),
                   send(0, 1), add(0, 0, 1), send(0, 1))
        self.assertEqual(told[5:], [[1, 2], [2, 0], [0], [3, 0], [2], [4, 1]])

    def test_a_letter_that_was_written_does_not(self):
        told = ask(begin(2), add(0, 0, 1), send(0, 1), comes(0), send(1, 0), send(0, 1))
        self.assertEqual(told[-1], [2, 1])

    def test_what_a_third_desk_tells_does_not(self):
        # Desk 2 tells desk 0 of desk 1's deed; that desk 1 has had it is told by desk 1 alone.
        told = ask(begin(3), add(1, 0, 1), *letters(0, (1, 2), (2, 0)), send(0, 1), send(0, 2))
        self.assertEqual(told[-2:], [[2, 1], [3, 0]])

    def test_an_older_letter_that_comes_late_takes_nothing_away(self):
        start = [begin(2), send(1, 0), add(0, 0, 1), *letters(1, (0, 1)), add(1, 0, 1), send(1, 0), comes(2)]
        self.assertEqual(ask(*start, kept(0), send(0, 1), comes(0), kept(0), send(0, 1), comes(2), kept(0))[8:],
                         [[2, 0, 2, 0], [3, 0], [0], [2, 0, 2, 0], [4, 0], [0], [2, 0, 2, 0]])

    def test_what_is_told_is_kept_for_each_desk_by_itself(self):
        told = ask(begin(3), add(0, 0, 1), *letters(0, (0, 1), (0, 2), (1, 0)), send(0, 1), send(0, 2), send(1, 2))
        self.assertEqual(told[-3:], [[3, 0], [4, 1], [5, 1]])

    def test_settled_is_what_each_other_one_told(self):
        told = ask(begin(3), *[add(0, 0, 1)] * 3, kept(0), *letters(0, (0, 1), (1, 0)), kept(0), kept(1),
                   add(2, 0, 1), *letters(2, (2, 0)), kept(0), *letters(3, (0, 2), (2, 0)), kept(0), kept(2))
        self.assertEqual([answer for answer in told if len(answer) == 4],
                         [[3, 0, 0, 0], [3, 0, 0, 0], [3, 0, 0, 0], [4, 0, 1, 0], [4, 0, 3, 0], [4, 0, 0, 0]])
