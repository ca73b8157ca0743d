"""forget and kept: what is settled, kept, ripe, forgotten."""

import unittest

from tests.helper import (GREATEST, add, amounts, ask, back, begin, comes, forget, kept, last, letters, make, redo, row,
                          same, send, tree, undo, values)


def adds(desk, many):
    return [add(desk, 0, 1)] * many


class OneDesk(unittest.TestCase):
    def test_nothing_was_done(self):
        self.assertEqual(ask(kept(0), forget(0), kept(0)), [[0, 0, 0, 0], [0, 0], [0, 0, 0, 0]])

    def test_a_count_and_20_just_above_what_is_settled(self):
        self.assertEqual(ask(*adds(0, 20), kept(0), forget(0))[20:], [[20, 0, 20, 0], [0, 0]])

    def test_a_count_and_20_just_what_is_settled(self):
        told = ask(*adds(0, 21), kept(0), forget(0), kept(0))
        self.assertEqual(told[21:], [[21, 1, 21, 0], [1, 1], [20, 0, 21, 1]])

    def test_twice(self):
        told = ask(*adds(0, 25), forget(0), forget(0), add(0, 0, 1), forget(0), kept(0))
        self.assertEqual(told[25:], [[5, 5], [0, 5], [25], [1, 6], [20, 0, 26, 6]])

    def test_all_deeds(self):
        told = ask(*adds(0, 100), kept(0), forget(0), kept(0))
        self.assertEqual(told[100:], [[100, 80, 100, 0], [80, 80], [20, 0, 100, 80]])

    def test_takings_back_and_doings_again_are_kept_and_forgotten_too(self):
        told = ask(make(0, 0, 0), undo(0), redo(0), *adds(0, 19), undo(0), kept(0), forget(0), row(0, 0))
        self.assertEqual(told[-3:], [[23, 3, 23, 0], [3, 3], [1, 2]])

    def test_what_is_forgotten_is_too_late_to_be_taken_back_or_done_again(self):
        told = ask(make(0, 0, 0), *adds(0, 20), back(0, 0), forget(0), back(0, 0), row(0, 0))
        self.assertEqual(told[21:], [[-4], [1, 1], [-4], [1, 2]])
        late = [add(0, 0, 1), add(0, 0, 2), back(0, 0)] + [undo(0), redo(0)] * 9
        self.assertEqual(ask(*late, redo(0), forget(0), redo(0), back(0, 0))[21:], [[-4], [1, 1], [-4], [-4]])

    def test_what_is_forgotten_is_still_seen(self):
        start = [make(0, 0, 0), make(0, 2, 0), [4, 0, 3, 1, 7], add(0, 3, 5)]
        asked = [tree(0, 0), values(0, 3, 1), amounts(0, 2), [19, 0, 1, 7]]
        told = ask(*start, *adds(0, 40), forget(0), *asked)
        self.assertEqual(told[44:], [[24, 24], [2, 2, 1, 3, 2], [1, 2, 7], [1, 0, 5], [1, 3]])

    def test_what_is_forgotten_still_gives_spots(self):
        start = [make(0, 0, 0), make(0, 0, 1), make(0, 0, 2), undo(0), *adds(0, 30)]
        told = ask(*start, forget(0), make(0, 0, 2), make(0, 0, 1), row(0, 0))
        self.assertEqual(told[34:], [[14, 14], [34, 5], [35, 6], [4, 2, 6, 3, 5]])

    def test_a_refused_call_makes_nothing_ripe(self):
        self.assertEqual(last(*adds(0, 20), add(0, 9, 1), make(0, 0, 1), back(0, 99), kept(0)), [20, 0, 20, 0])


class Ripe(unittest.TestCase):
    def test_without_a_letter_from_the_other_one(self):
        told = ask(begin(2), *adds(0, 30), send(0, 1), kept(0), comes(0), kept(0), forget(0), send(1, 0), forget(0))
        self.assertEqual(told[32:], [[30, 0, 0, 0], [30], [30, 0, 0, 0], [0, 0], [1, 0], [0, 0]])

    def test_just_ripe_and_just_not_with_two_desks(self):
        for many, ripe in ((19, 0), (20, 0), (21, 1), (22, 2)):
            told = ask(begin(2), *adds(0, many), *letters(0, (0, 1), (1, 0)), kept(0), forget(0), kept(1), forget(1))
            self.assertEqual(told[-4:], [[many, ripe, many, 0], [ripe, ripe], [many, ripe, many, 0], [ripe, ripe]])

    def test_what_the_others_told_is_the_least(self):
        # Behind the letter each desk goes on by itself: what it was told stays, and so does what's settled.
        start = [begin(2), *adds(1, 21), *letters(0, (1, 0)), *adds(1, 5)]
        self.assertEqual(ask(*start, kept(0), kept(1))[-2:], [[21, 1, 21, 0], [26, 0, 0, 0]])
        self.assertEqual(ask(*start, *letters(1, (0, 1)), kept(1), forget(1))[-2:], [[26, 1, 21, 0], [1, 1]])
        self.assertEqual(ask(*start, *adds(0, 9), kept(0))[-1], [30, 1, 21, 0])

    def test_sure_of_all_but_one_desk(self):
        # Desk 2 told of a count that is great enough, but has not had desk 0's deeds.
        start = [begin(3), *adds(0, 21), *letters(0, (0, 1), (1, 0)), *adds(2, 21), *letters(2, (2, 0))]
        self.assertEqual(ask(*start, kept(0), forget(0))[-2:], [[42, 0, 21, 0], [0, 0]])
        # Desk 2's first deed has a later stamp than desk 0's first, and desk 1 has not had it.
        told = ask(*start, *letters(3, (0, 2), (2, 0)), kept(0), forget(0), kept(0))
        self.assertEqual(told[-3:], [[42, 1, 21, 0], [1, 1], [41, 0, 21, 1]])

    def test_sure_of_all_but_one_of_six(self):
        out = [(0, other) for other in range(1, 6)]
        home = [(other, 0) for other in range(1, 6)]
        start = [begin(6), *adds(0, 23)]
        told = ask(*start, *letters(0, *out, *home[:4]), kept(0), forget(0), *letters(9, home[4]), kept(0), forget(0))
        self.assertEqual(told[-6:-4], [[23, 0, 0, 0], [0, 0]])
        self.assertEqual(told[-2:], [[23, 3, 23, 0], [3, 3]])

    def test_an_earlier_one_that_is_not_ripe(self):
        # Desk 2's only deed has the stamp behind desk 0's first; desk 1 has not had it.
        start = [begin(3), *adds(0, 22), add(2, 0, 1), *letters(0, (0, 1), (0, 2), (1, 0), (2, 0))]
        self.assertEqual(last(*start, kept(0)), [23, 1, 22, 0])
        told = ask(*start, forget(0), kept(0), *letters(4, (0, 1), (1, 0)), kept(0), forget(0), kept(0))
        self.assertEqual([told[k] for k in (-9, -8, -3, -2, -1)],
                         [[1, 1], [22, 0, 22, 1], [22, 2, 22, 1], [2, 3], [20, 0, 22, 3]])

    def test_of_itself_a_desk_is_sure(self):
        # Desk 1 has had desk 0's deeds by a letter; that is enough for it, if not for desk 0.
        told = ask(begin(2), *adds(0, 24), *letters(0, (0, 1)), kept(1), forget(1), kept(0), forget(0))
        self.assertEqual(told[-4:], [[24, 4, 24, 0], [4, 4], [24, 0, 0, 0], [0, 0]])

    def test_what_a_third_desk_told_of_the_other_one_is_not_enough(self):
        told = ask(begin(3), *adds(0, 25), *letters(0, (0, 1), (1, 2), (2, 0)), kept(0), *letters(3, (1, 0)), kept(0))
        self.assertEqual((told[-4], told[-1]), ([25, 0, 0, 0], [25, 5, 25, 0]))

    def test_a_letter_written_too_early_is_not_enough(self):
        told = ask(begin(2), *adds(0, 25), send(1, 0), *letters(1, (0, 1)), comes(0), kept(0), *letters(2, (1, 0)),
                   kept(0))
        self.assertEqual((told[-4], told[-1]), ([25, 0, 0, 0], [25, 5, 25, 0]))


class Forgotten(unittest.TestCase):
    start = [begin(2), make(0, 0, 0), *adds(0, 24), *letters(0, (0, 1), (1, 0))]

    def test_one_desk_forgets_and_the_other_does_not(self):
        told = ask(*self.start, forget(0), kept(0), kept(1), same(0, 1), forget(1), kept(1), same(0, 1))
        self.assertEqual(told[-7:], [[5, 5], [20, 0, 25, 5], [25, 5, 25, 0], [1, 1], [5, 5], [20, 0, 25, 5], [1, 1]])

    def test_an_old_letter_that_comes_late_brings_nothing_back(self):
        early = [begin(2), make(0, 0, 0), send(0, 1), *adds(0, 24), *letters(1, (0, 1), (1, 0))]
        told = ask(*early, forget(0), forget(1), comes(0), comes(1), comes(2), kept(0), kept(1), row(1, 0))
        self.assertEqual(told[-8:], [[5, 5], [5, 5], [0], [0], [0], [20, 0, 25, 5], [20, 0, 25, 5], [1, 2]])

    def test_letters_have_what_the_other_one_may_not_have_had(self):
        told = ask(*self.start, add(0, 0, 1), forget(0), send(0, 1), comes(2), send(1, 0), kept(0), kept(1))
        self.assertEqual(told[-6:], [[5, 5], [2, 1], [1], [3, 0], [21, 0, 25, 5], [26, 6, 26, 0]])

    def test_a_desk_goes_on_behind_forgetting(self):
        told = ask(*self.start, forget(0), make(0, 2, 0), *letters(2, (0, 1)), make(1, 2, 1), *letters(3, (1, 0)),
                   forget(0), forget(1), row(0, 2), row(1, 2), same(0, 1))
        self.assertEqual(told[-5:], [[2, 7], [6, 6], [2, 3, 4], [2, 3, 4], [1, 1]])

    def test_a_second_begin_forgets_what_was_forgotten(self):
        told = ask(*self.start, forget(0), begin(2), kept(0), kept(1), forget(0), comes(0), *adds(0, 1), kept(0),
                   *letters(0, (0, 1), (1, 0)), kept(0), row(0, 0))
        self.assertEqual(told[30:38], [[5, 5], [0], [0, 0, 0, 0], [0, 0, 0, 0], [0, 0], [-2], [0], [1, 0, 0, 0]])
        self.assertEqual(told[-2:], [[1, 0, 1, 0], [0]])

    def test_kept_asks_alone(self):
        told = ask(*self.start, kept(0), kept(0), kept(1), forget(0))
        self.assertEqual(told[-4:], [[25, 5, 25, 0]] * 3 + [[5, 5]])

    def test_no_such_desk(self):
        for desk in (2, 6, GREATEST):
            self.assertEqual(ask(*self.start, forget(desk), kept(desk), kept(0))[-3:], [[-2], [-2], [25, 5, 25, 0]])
        self.assertEqual(ask(forget(1), kept(1)), [[-2], [-2]])
