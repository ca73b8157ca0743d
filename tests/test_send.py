import unittest

from tests.helper import GREATEST, Looked, add, ask, begin, last, make, redo, send, undo


class Send(unittest.TestCase):
    def test_letters_are_numbered_whoever_writes(self):
        told = ask(begin(3), send(0, 1), send(2, 0), send(1, 2), send(0, 1))
        self.assertEqual(told[1:], [[0, 0], [1, 0], [2, 0], [3, 0]])

    def test_it_has_all_deeds_that_the_sender_has_had(self):
        told = ask(begin(3), make(0, 0, 0), send(0, 1), add(0, 2, 1), undo(0), redo(0), send(0, 1), send(0, 2),
                   send(1, 0), add(1, 0, 1), send(1, 0))
        self.assertEqual([told[k] for k in (2, 6, 7, 8, 10)], [[0, 1], [1, 4], [2, 4], [3, 0], [4, 1]])

    def test_refused_calls_are_no_deeds(self):
        self.assertEqual(last(begin(2), make(0, 2, 0), make(0, 0, 1), undo(0), redo(0), send(0, 1)), [0, 0])

    def test_it_leaves_out_what_the_other_one_surely_has_had(self):
        looked = Looked(begin(3), add(0, 0, 1), add(1, 0, 1), add(1, 0, 1))
        looked.hear(1, 0)
        self.assertEqual(looked.do(send(0, 1), send(0, 2), add(0, 0, 1), send(0, 1)), [[1, 1], [2, 3], [3], [3, 2]])

    def test_what_it_tells_stays_as_it_was_written(self):
        looked = Looked(begin(2), add(0, 0, 1), undo(0), add(1, 0, 1), send(0, 1), add(0, 0, 1))
        letter = looked.house.letters[0]
        self.assertEqual((letter.source, letter.target, letter.greatest), (0, 1, 2))
        self.assertEqual((letter.counts, letter.deeds), ([2, 0], [0, 1]))

    def test_a_letter_makes_no_deed_and_no_count(self):
        self.assertEqual(ask(begin(2), add(0, 0, 1), *[send(0, 1)] * 30, undo(0), add(0, 0, 1))[32:], [[0], [2]])

    def test_no_such_desk(self):
        for source, target in ((0, 2), (2, 0), (2, 3), (0, GREATEST), (GREATEST, 0), (GREATEST, GREATEST)):
            self.assertEqual(last(begin(2), send(source, target)), [-2])

    def test_both_are_one(self):
        self.assertEqual(ask(send(0, 0), begin(2), send(1, 1), send(1, 0)), [[-2], [0], [-2], [0, 0]])

    def test_the_200th_letter_and_the_one_behind_it(self):
        told = ask(begin(2), *[send(0, 1), send(1, 0)] * 100, send(0, 1), send(1, 0), add(0, 0, 1), send(0, 1))
        self.assertEqual(told[200:], [[199, 0], [-5], [-5], [0], [-5]])

    def test_of_several_the_one_told_first(self):
        told = ask(begin(2), *[send(0, 1)] * 200, send(0, 2), send(1, 1), send(1, 0))
        self.assertEqual(told[201:], [[-2], [-2], [-5]])

    def test_deeds_and_letters_have_limits_of_their_own(self):
        told = ask(begin(2), *[add(0, 0, 1)] * 101, send(0, 1))
        self.assertEqual(told[101:], [[-5], [0, 100]])
