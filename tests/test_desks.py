"""Two, three and six desks that each work by themselves and write one another."""

import unittest

from tests.helper import (add, amounts, ask, back, begin, clear, comes, find, forget, kept, last, less, letters, line,
                          make, move, redo, row, same, send, tell, tree, undo, values)

# Both desks have 2 and 3 under the root.
SHARED = [begin(2), make(0, 0, 0), make(0, 0, 1), *letters(0, (0, 1))]


class TwoDesks(unittest.TestCase):
    def test_a_list_that_is_kept_by_two(self):
        told = ask(*SHARED, make(0, 2, 0), tell(0, 4, 0, 11), make(1, 2, 0), tell(1, 5, 0, 12), add(1, 2, 3),
                   less(0, 2, 4), *letters(1, (0, 1), (1, 0)), tree(0, 0), tree(1, 0), amounts(0, 2), amounts(1, 2),
                   find(0, 0, 12), find(1, 0, 11), same(0, 1))
        self.assertEqual(told[-7:], [[4, 2, 1, 4, 2, 5, 2, 3, 1]] * 2 + [[2, -1, -1]] * 2 + [[1, 5], [1, 4], [1, 1]])

    def test_a_thing_within_itself_by_the_deeds_of_two_desks(self):
        start = SHARED + [move(1, 2, 3, 0), move(0, 3, 2, 0), send(0, 1), send(1, 0), comes(1), comes(2)]
        told = ask(*start, tree(0, 0), tree(1, 0), line(0, 3), line(1, 3), same(0, 1))
        self.assertEqual(told[-5:], [[2, 2, 1, 3, 2]] * 2 + [[3, 3, 2, 0]] * 2 + [[1, 1]])
        # The earlier one, desk 0's, is taken back: now desk 1's changes something.
        told = ask(*start, undo(0), tree(0, 0), tree(1, 0), *letters(3, (0, 1)), tree(1, 0))
        self.assertEqual([told[k] for k in (-5, -4, -1)], [[2, 3, 1, 2, 2], [2, 2, 1, 3, 2], [2, 3, 1, 2, 2]])
        # The later one is taken back: it had changed nothing.
        told = ask(*start, undo(1), tree(1, 0), redo(1), tree(1, 0))
        self.assertEqual(told[-3::2], [[2, 2, 1, 3, 2]] * 2)

    def test_within_itself_by_more_steps(self):
        start = [begin(2)] + [make(0, 0, k) for k in range(4)] + [*letters(0, (0, 1))]
        start += [move(0, 2, 3, 0), move(0, 4, 5, 0), move(1, 3, 4, 0), move(1, 5, 2, 0)]
        told = ask(*start, *letters(1, (0, 1), (1, 0)), tree(0, 0), tree(1, 0))
        # By stamps: 2 under 3, 3 under 4, 4 under 5, and 5 under 2 would lie within itself.
        self.assertEqual(told[-2:], [[4, 5, 1, 4, 2, 3, 3, 2, 4]] * 2)

    def test_two_moves_of_one_thing(self):
        start = SHARED + [move(0, 2, 1, 0), move(1, 2, 3, 0), *letters(1, (0, 1), (1, 0))]
        told = ask(*start, tree(0, 0), tree(0, 1), tree(1, 0), tree(1, 1))
        self.assertEqual(told[-4:], [[2, 3, 1, 2, 2], [0]] * 2)
        told = ask(*start, undo(1), tree(1, 0), tree(1, 1), tree(0, 0), *letters(3, (1, 0)), tree(0, 0), tree(0, 1))
        self.assertEqual(told[-7:-4] + told[-2:], [[1, 3, 1], [1, 2, 1], [2, 3, 1, 2, 2], [1, 3, 1], [1, 2, 1]])

    def test_put_under_what_another_one_took_away(self):
        start = SHARED + [make(1, 2, 0), back(0, 0), *letters(1, (0, 1), (1, 0))]
        told = ask(*start, tree(0, 0), tree(1, 0), line(1, 4), values(1, 4, 0), redo(0), tree(0, 0), row(1, 0))
        self.assertEqual(told[-7:], [[1, 3, 1], [1, 3, 1], [-3], [-3], [0], [3, 2, 1, 4, 2, 3, 1], [1, 3]])

    def test_made_in_the_bin_and_moved_out_by_another(self):
        told = ask(*SHARED, move(0, 2, 1, 0), *letters(1, (0, 1)), move(1, 2, 3, 0), *letters(2, (1, 0)), tree(0, 0),
                   row(0, 1))
        self.assertEqual(told[-2:], [[2, 3, 1, 2, 2], [0]])


class TakenBack(unittest.TestCase):
    """What one desk took back holds at another one until that one hears of it, and so does what is done again."""

    def check(self, call, asked, before, after):
        start = SHARED + [tell(0, 2, 0, 4), add(0, 2, 6)] + [call] + letters(1, (0, 1))
        told = ask(*start, asked(0), asked(1), undo(0), asked(0), asked(1), send(0, 1), asked(1), comes(2), asked(0),
                   asked(1), redo(0), asked(0), asked(1), send(0, 1), comes(3), asked(1), comes(2), asked(1))
        found = told[len(start):]
        self.assertEqual([found[k] for k in (0, 1, 3, 4, 6)], [after, after, before, after, after])
        self.assertEqual([found[k] for k in (8, 9, 11, 12)], [before, before, after, before])
        self.assertEqual((found[15], found[17]), (after, after))

    def test_a_make(self):
        self.check(make(0, 2, 0), lambda desk: tree(desk, 0), [2, 2, 1, 3, 1], [3, 2, 1, 4, 2, 3, 1])

    def test_a_move(self):
        self.check(move(0, 2, 0, 1), lambda desk: row(desk, 0), [2, 2, 3], [2, 3, 2])

    def test_a_telling(self):
        self.check(tell(0, 2, 0, 5), lambda desk: values(desk, 2, 0), [1, 2, 4], [1, 4, 5])

    def test_a_clearing(self):
        self.check(clear(0, 2, 0), lambda desk: find(desk, 0, 4), [1, 2], [0])

    def test_an_adding(self):
        self.check(add(0, 2, 5), lambda desk: amounts(desk, 0), [2, 0, 6], [2, 0, 11])
        self.check(less(0, 2, 9), lambda desk: amounts(desk, 2), [0, 6, 6], [0, -3, -3])

    def test_a_taking_back_that_comes_ahead_of_its_deed_s_letter(self):
        told = ask(begin(2), make(0, 0, 0), send(0, 1), undo(0), send(0, 1), comes(1), row(1, 0), comes(0), row(1, 0),
                   same(0, 1))
        self.assertEqual(told[5:], [[2], [0], [0], [0], [1, 1]])

    def test_another_desk_cannot_take_it_back(self):
        self.assertEqual(ask(*SHARED, back(1, 0), undo(1), redo(1), undo(0), *letters(1, (0, 1)), redo(1))[5:],
                         [[-3], [-3], [-3], [1], [1, 3], [1], [-3]])

    def test_told_over_what_was_taken_back_elsewhere(self):
        # Desk 1 told over desk 0's value and saw it; when desk 1 takes that back, desk 0's is a value again.
        start = SHARED + [tell(0, 2, 0, 4), *letters(1, (0, 1)), tell(1, 2, 0, 5), *letters(2, (1, 0))]
        told = ask(*start, values(0, 2, 0), undo(0), values(0, 2, 0), undo(1), values(1, 2, 0), *letters(3, (1, 0)),
                   values(0, 2, 0), values(1, 2, 0))
        self.assertEqual([told[k] for k in (-9, -7, -5, -2, -1)], [[1, 3, 5], [1, 3, 5], [1, 2, 4], [0], [1, 2, 4]])


class Reach(unittest.TestCase):
    """Takings back whose count is just 20 above the deed's, and 21 above, with letters between."""

    def test_of_a_desk_by_itself(self):
        for many, answers in ((19, [[20], [0]]), (20, [[-4], [1, 2]])):
            told = ask(make(0, 0, 0), *[add(0, 0, 1)] * many, back(0, 0), row(0, 0))
            self.assertEqual(told[-2:], answers)

    def test_counts_that_came_by_a_letter(self):
        for many, answers in ((20, [[21], [0], [1, 2], [2], [0]]), (21, [[-4], [1, 2], [1, 1], [1], [1, 2]])):
            told = ask(begin(2), make(0, 0, 0), *[add(1, 0, 1)] * many, *letters(0, (1, 0)), back(0, 0), row(0, 0),
                       *letters(1, (0, 1)), row(1, 0))
            self.assertEqual(told[-5:], answers)

    def test_undo_and_redo(self):
        for many, answers in ((19, [[0], [0], [-4]]), (20, [[0], [-4], [-3]]), (21, [[-4], [-3], [-4]])):
            told = ask(begin(2), make(0, 0, 0), *[add(1, 0, 1)] * many, *letters(0, (1, 0)), undo(0), redo(0), undo(0))
            self.assertEqual(told[-3:], answers)

    def test_a_taking_back_just_in_reach_comes_late(self):
        # Desk 1 has gone on far beyond when it hears of the taking back, which holds by its own count.
        told = ask(begin(2), make(0, 0, 0), *letters(0, (0, 1)), *[add(0, 0, 1)] * 19, back(0, 0), send(0, 1),
                   *[add(1, 0, 1)] * 50, row(1, 0), comes(1), row(1, 0), kept(1))
        self.assertEqual(told[-4:], [[1, 2], [20], [0], [71, 1, 21, 0]])


class ThreeDesks(unittest.TestCase):
    # Each makes a thing and tells a value of the shared one, unseen by the others.
    start = [begin(3), make(0, 0, 0), *letters(0, (0, 1), (0, 2)), make(2, 2, 0), make(1, 2, 0), make(0, 2, 0),
             tell(2, 2, 1, 7), tell(1, 2, 1, 8), tell(0, 2, 1, 7), send(0, 1), send(0, 2), send(1, 0), send(1, 2),
             send(2, 0), send(2, 1)]

    def test_letters_in_any_order_and_doubled(self):
        for order in ([2, 3, 4, 5, 6, 7], [7, 6, 5, 4, 3, 2], [4, 4, 2, 7, 7, 2, 6, 3, 5, 5, 4, 2], [0, 6, 1, 4, 7, 2, 5, 3]):
            told = ask(*self.start, *[comes(letter) for letter in order], *[row(desk, 2) for desk in range(3)],
                       *[values(desk, 2, 1) for desk in range(3)], same(0, 1), same(1, 2), same(2, 0))
            self.assertEqual(told[-9:], [[3, 5, 4, 3]] * 3 + [[3, 6, 7, 5, 8, 4, 7]] * 3 + [[1, 1]] * 3, order)

    def test_some_never_come(self):
        told = ask(*self.start, comes(2), comes(7), row(0, 2), row(1, 2), row(2, 2), find(0, 1, 8), find(1, 1, 8),
                   same(0, 1), same(1, 2))
        self.assertEqual(told[-7:], [[1, 5], [3, 5, 4, 3], [1, 3], [0], [1, 2], [0, 0], [0, 0]])

    def test_by_way_of_a_third_desk(self):
        told = ask(*self.start, comes(2), comes(7), *letters(8, (1, 0), (1, 2)), row(0, 2), row(2, 2), values(0, 2, 1),
                   same(0, 1), same(0, 2))
        self.assertEqual(told[-9:-5], [[8, 4], [4], [9, 4], [4]])
        self.assertEqual(told[-5:], [[3, 5, 4, 3]] * 2 + [[3, 6, 7, 5, 8, 4, 7], [1, 1], [1, 1]])

    def test_late_letters_behind_forgetting(self):
        # All come once more when desk 0 has forgotten: of count 1 to 5 were 1, 3, 3, 1 and 1.
        middle = [*[comes(letter) for letter in range(2, 8)], *[add(0, 0, 1)] * 22,
                  *letters(8, (0, 1), (0, 2), (1, 0), (2, 0)), forget(0), kept(0)]
        late = [comes(letter) for letter in (7, 6, 5, 4, 3, 2, 1, 0)]
        told = ask(*self.start, *middle, *late, kept(0), kept(1), *[row(desk, 2) for desk in range(3)], same(0, 1))
        self.assertEqual(told[-16:-14], [[9, 9], [20, 0, 25, 9]])
        self.assertEqual(told[-14:], [[0]] * 8 + [[20, 0, 25, 9], [29, 0, 3, 0]] + [[3, 5, 4, 3]] * 3 + [[1, 1]])


class SixDesks(unittest.TestCase):
    start = [begin(6)] + [make(desk, 0, 0) for desk in (5, 4, 3, 2, 1, 0)]
    round_once = [(desk, desk + 1) for desk in range(5)]

    def test_each_makes_one_and_it_goes_round(self):
        # Desk 5 hears of all; the others behind it of all before them.
        told = ask(*self.start, *letters(0, *self.round_once), *[row(desk, 0) for desk in range(6)])
        self.assertEqual(told[-6:], [[desk + 1] + [7, 6, 5, 4, 3, 2][:desk + 1] for desk in range(6)])

    def test_twice_round(self):
        pairs = self.round_once + [(5, 0)] + self.round_once
        told = ask(*self.start, *letters(0, *pairs), *[same(0, desk) for desk in range(6)], row(3, 0))
        self.assertEqual(told[-7:], [[1, 1]] * 6 + [[6, 7, 6, 5, 4, 3, 2]])

    def test_all_forget(self):
        out = [(0, desk) for desk in range(1, 6)]
        home = [(desk, 0) for desk in range(1, 6)]
        calls = self.start + letters(0, *home) + [add(0, 0, 1)] * 21 + letters(5, *out, *home)
        told = ask(*calls, kept(0), forget(0), kept(5), forget(5), *letters(15, *out), *[row(desk, 0) for desk in (0, 5)],
                   make(5, 7, 0), *letters(20, (5, 0)), tree(0, 7), forget(0))
        # Six deeds of count 1, then 2 to 22 at desk 0: those of count 1 and 2 are ripe there, none elsewhere.
        asked = told[len(calls):]
        self.assertEqual(asked[:4], [[27, 7, 22, 0], [7, 7], [27, 0, 0, 0], [0, 0]])
        self.assertEqual(asked[14:], [[6, 7, 6, 5, 4, 3, 2]] * 2 + [[27, 8], [20, 1], [1], [1, 8, 1], [0, 7]])


class SecondBegin(unittest.TestCase):
    def test_behind_letters_and_forgettings(self):
        first = [begin(2), make(0, 0, 0), tell(0, 2, 0, 5), add(0, 0, 9), *[add(0, 2, 1)] * 20,
                 *letters(0, (0, 1), (1, 0)), forget(0), forget(1), send(0, 1)]
        second = [kept(0), kept(2), comes(0), comes(2), tree(0, 0), row(1, 0), line(0, 2), values(0, 0, 0),
                  amounts(0, 0), find(0, 0, 5), same(0, 2), forget(2), undo(0), make(2, 0, 0), *letters(0, (2, 0)),
                  row(0, 0), same(0, 2), kept(0)]
        self.assertEqual(last(*first, kept(0)), [20, 0, 23, 3])
        self.assertEqual(ask(*first, begin(3), *second)[len(first) + 1:], ask(begin(3), *second)[1:])
        self.assertEqual(ask(begin(3), *second)[1:5], [[0, 0, 0, 0], [0, 0, 0, 0], [-2], [-2]])
